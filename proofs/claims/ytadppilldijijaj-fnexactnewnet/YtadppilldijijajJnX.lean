/-
  Contracts of chapter 4: new nets: in the program and in its model.
-/
import Derived.Test.YtadppilldijijajJnW
namespace Go.Proofs.Ytadppilldijijaj
open Go.ChangeShapes Go.WideShapes Go.ChangeAt Go.RowKit
set_option linter.unusedVariables false

def freshN (xss : List (List Int)) (c : MCheat) : MNet := ⟨xss, [0, 0, 0, 0], 0, [[], [], [], []], c, ⟨false, 0, 0, 0, 0, 0, 0, 0⟩⟩
def newR (xss : List (List Int)) (c : MCheat) : MNetResult := if tapeC xss = 0 then (if cheatC c = 0 then ⟨0, 0, freshN xss c⟩ else badN (cheatC c)) else badN (tapeC xss)
theorem newR_cnt (xss : List (List Int)) (c : MCheat) (h : totTape xss ≤ 1048576) : cntNetResult (newR xss c) ≤ 268435456 := by
  have h1 := cntTape_le xss
  unfold newR
  split
  · split
    · show cntTape xss + 4 + 0 ≤ _
      omega
    · exact badN_cnt _
  · exact badN_cnt _
theorem Ints.four {W : World} {g : Nat} (h : Blk W g 2 #[.int .i64 0, .int .i64 0, .int .i64 0, .int .i64 0]) : Ints W (.slice (some ⟨g, 0, none⟩) 4 4) [0, 0, 0, 0] [g] :=
  ⟨2, rfl, .inr ⟨g, 4, _, rfl, rfl, h, Nat.le_refl _, by unfold maxLen; omega, rfl, rfl⟩⟩
theorem Mat.four {W : World} {g : Nat} (h : Blk W g 42 #[.slice none 0 0, .slice none 0 0, .slice none 0 0, .slice none 0 0]) : Mat W (.slice (some ⟨g, 0, none⟩) 4 4) [[], [], [], []] [g] :=
  ⟨[.slice none 0 0, .slice none 0 0, .slice none 0 0, .slice none 0 0], [g], [[], [], [], []], ⟨rfl, .inr ⟨g, 4, _, rfl, rfl, h, Nat.le_refl _, by unfold maxLen; omega, rfl, rfl⟩⟩, ⟨Ints.nil _, Ints.nil _, Ints.nil _, Ints.nil _, trivial⟩, by simp, by simp⟩
theorem ne_one {a b : Nat} (h : a ≠ b) : a ∉ [b] := fun hm => h (List.mem_singleton.1 hm)
/-- what a new net is made of -/
theorem OwNet.fresh {W : World} {xss : List (List Int)} {c : MCheat} {q0 : Option Addr} {d0 g1 g2 : Nat} {b0 : List Nat} (hT : Mat W (.slice q0 xss.length d0) xss b0) (h1 : Blk W g1 2 #[.int .i64 0, .int .i64 0, .int .i64 0, .int .i64 0]) (h2 : Blk W g2 42 #[.slice none 0 0, .slice none 0 0, .slice none 0 0, .slice none 0 0]) (n1 : g1 ∉ b0) (n2 : g2 ∉ b0) (n3 : g1 ≠ g2) :
    OwNet W (.agg #[.slice q0 xss.length d0, .slice (some ⟨g1, 0, none⟩) 4 4, .int .i64 0, .slice (some ⟨g2, 0, none⟩) 4 4, .int .i64 c.xWho, .int .i64 c.xAt, .int .i64 c.xBy, .bool c.xCry, .bool false, .int .i64 0, .int .i64 0, .int .i64 0, .int .i64 0, .int .i64 0, .int .i64 0, .int .i64 0]) (freshN xss c) b0 [g1] [g2] :=
  ⟨q0, d0, some ⟨g1, 0, none⟩, 4, some ⟨g2, 0, none⟩, 4, rfl, hT, Ints.four h1, Mat.four h2, fun y hy hm => n1 (by simp at hm; rw [← hm]; exact hy), fun y hy hm => n2 (by simp at hm; rw [← hm]; exact hy), fun y hy hm => n3 (by simp at hy hm; omega)⟩
set_option maxHeartbeats 4000000 in
set_option maxRecDepth 100000 in
theorem spec_l4New (v : Value) (xss : List (List Int)) (c : MCheat) (w : World) (hv : RdTape w v xss) (hl : tot xss ≤ 1048576) :
    Calls Try.prog 77 #[v, .agg #[.int .i64 c.xWho, .int .i64 c.xAt, .int .i64 c.xBy, .bool c.xCry]] w fun e w' => OutNet w w' (freshN xss c) e := by
  obtain ⟨p, d, rfl, hv⟩ := hv
  have mk1 : ∀ w, (Instr.makeSlice 42 (.int .i64 4) (.int .i64 4)).run Try.prog w = .ok (.slice (some ⟨w.heap.size, 0, none⟩) 4 4) (w.alloc (.cells #[.int .i64 0, .int .i64 0, .int .i64 0, .int .i64 0] 2)) := fun _ => by kernel_rfl
  have mk2 : ∀ w, (Instr.makeSlice 22 (.int .i64 4) (.int .i64 4)).run Try.prog w = .ok (.slice (some ⟨w.heap.size, 0, none⟩) 4 4) (w.alloc (.cells #[.slice none 0 0, .slice none 0 0, .slice none 0 0, .slice none 0 0] 42)) := fun _ => by kernel_rfl
  have B : Below w.heap.size w (((w.alloc (.cells #[.slice p xss.length d] 51)).alloc (.cells #[.int .i64 c.xWho, .int .i64 c.xAt, .int .i64 c.xBy, .bool c.xCry] 52)).alloc (.cells #[.slice none 0 0, .slice none 0 0, .int .i64 0, .slice none 0 0, .int .i64 0, .int .i64 0, .int .i64 0, .bool false, .bool false, .int .i64 0, .int .i64 0, .int .i64 0, .int .i64 0, .int .i64 0, .int .i64 0, .int .i64 0] 55)) := (by repeat (first | exact Below.refl _ _ | refine Below.drew ?_ | refine below_drewN ?_ _ | refine Below.setCell ?_ (by first | omega | (simp; done) | (simp; omega)) _ | refine Below.alloc ?_ (by first | omega | (simp; done) | (simp; omega)) _))
  have X : Blk (((w.alloc (.cells #[.slice p xss.length d] 51)).alloc (.cells #[.int .i64 c.xWho, .int .i64 c.xAt, .int .i64 c.xBy, .bool c.xCry] 52)).alloc (.cells #[.slice none 0 0, .slice none 0 0, .int .i64 0, .slice none 0 0, .int .i64 0, .int .i64 0, .int .i64 0, .bool false, .bool false, .int .i64 0, .int .i64 0, .int .i64 0, .int .i64 0, .int .i64 0, .int .i64 0, .int .i64 0] 55)) w.heap.size 51 #[.slice p xss.length d] := ((Blk.new w _ _).alloc _).alloc _
  have C : Blk (((w.alloc (.cells #[.slice p xss.length d] 51)).alloc (.cells #[.int .i64 c.xWho, .int .i64 c.xAt, .int .i64 c.xBy, .bool c.xCry] 52)).alloc (.cells #[.slice none 0 0, .slice none 0 0, .int .i64 0, .slice none 0 0, .int .i64 0, .int .i64 0, .int .i64 0, .bool false, .bool false, .int .i64 0, .int .i64 0, .int .i64 0, .int .i64 0, .int .i64 0, .int .i64 0, .int .i64 0] 55)) (w.heap.size + 1) 52 #[.int .i64 c.xWho, .int .i64 c.xAt, .int .i64 c.xBy, .bool c.xCry] := by simpa using (Blk.new (w.alloc (.cells #[.slice p xss.length d] 51)) 52 #[.int .i64 c.xWho, .int .i64 c.xAt, .int .i64 c.xBy, .bool c.xCry]).alloc (.cells #[.slice none 0 0, .slice none 0 0, .int .i64 0, .slice none 0 0, .int .i64 0, .int .i64 0, .int .i64 0, .bool false, .bool false, .int .i64 0, .int .i64 0, .int .i64 0, .int .i64 0, .int .i64 0, .int .i64 0, .int .i64 0] 55)
  have Y : Blk (((w.alloc (.cells #[.slice p xss.length d] 51)).alloc (.cells #[.int .i64 c.xWho, .int .i64 c.xAt, .int .i64 c.xBy, .bool c.xCry] 52)).alloc (.cells #[.slice none 0 0, .slice none 0 0, .int .i64 0, .slice none 0 0, .int .i64 0, .int .i64 0, .int .i64 0, .bool false, .bool false, .int .i64 0, .int .i64 0, .int .i64 0, .int .i64 0, .int .i64 0, .int .i64 0, .int .i64 0] 55)) (w.heap.size + 1 + 1) 55 #[.slice none 0 0, .slice none 0 0, .int .i64 0, .slice none 0 0, .int .i64 0, .int .i64 0, .int .i64 0, .bool false, .bool false, .int .i64 0, .int .i64 0, .int .i64 0, .int .i64 0, .int .i64 0, .int .i64 0, .int .i64 0] := by simpa using Blk.new ((w.alloc (.cells #[.slice p xss.length d] 51)).alloc (.cells #[.int .i64 c.xWho, .int .i64 c.xAt, .int .i64 c.xBy, .bool c.xCry] 52)) 55 #[.slice none 0 0, .slice none 0 0, .int .i64 0, .slice none 0 0, .int .i64 0, .int .i64 0, .int .i64 0, .bool false, .bool false, .int .i64 0, .int .i64 0, .int .i64 0, .int .i64 0, .int .i64 0, .int .i64 0, .int .i64 0]
  have sz : (((w.alloc (.cells #[.slice p xss.length d] 51)).alloc (.cells #[.int .i64 c.xWho, .int .i64 c.xAt, .int .i64 c.xBy, .bool c.xCry] 52)).alloc (.cells #[.slice none 0 0, .slice none 0 0, .int .i64 0, .slice none 0 0, .int .i64 0, .int .i64 0, .int .i64 0, .bool false, .bool false, .int .i64 0, .int .i64 0, .int .i64 0, .int .i64 0, .int .i64 0, .int .i64 0, .int .i64 0] 55)).heap.size = w.heap.size + 3 := by simp
  go_enter Try.func77, Try.ntmps77
  go_wp2_with fail
  refine wp_region_held (S := fun V => (∀ o, V.cell? ⟨w.heap.size, o, none⟩ = (#[.slice p xss.length d] : Array Value)[o]?) ∧ (∀ o, V.cell? ⟨w.heap.size + 1, o, none⟩ = (#[.int .i64 c.xWho, .int .i64 c.xAt, .int .i64 c.xBy, .bool c.xCry] : Array Value)[o]?)) (by kernel_rfl) ?_
  try (change wpAnyH _ _ _ _ _ _ _ _ (World.drew _))
  replace X := X.drew
  replace C := C.drew
  replace Y := Y.drew
  replace B := B.drew
  have Sz : w.heap.size + 3 ≤ (((w.alloc (.cells #[.slice p xss.length d] 51)).alloc (.cells #[.int .i64 c.xWho, .int .i64 c.xAt, .int .i64 c.xBy, .bool c.xCry] 52)).alloc (.cells #[.slice none 0 0, .slice none 0 0, .int .i64 0, .slice none 0 0, .int .i64 0, .int .i64 0, .int .i64 0, .bool false, .bool false, .int .i64 0, .int .i64 0, .int .i64 0, .int .i64 0, .int .i64 0, .int .i64 0, .int .i64 0] 55)).drew.heap.size := Nat.le_of_eq sz.symm
  have hS : (∀ o, (((w.alloc (.cells #[.slice p xss.length d] 51)).alloc (.cells #[.int .i64 c.xWho, .int .i64 c.xAt, .int .i64 c.xBy, .bool c.xCry] 52)).alloc (.cells #[.slice none 0 0, .slice none 0 0, .int .i64 0, .slice none 0 0, .int .i64 0, .int .i64 0, .int .i64 0, .bool false, .bool false, .int .i64 0, .int .i64 0, .int .i64 0, .int .i64 0, .int .i64 0, .int .i64 0, .int .i64 0] 55)).drew.cell? ⟨w.heap.size, o, none⟩ = (#[.slice p xss.length d] : Array Value)[o]?) ∧ (∀ o, (((w.alloc (.cells #[.slice p xss.length d] 51)).alloc (.cells #[.int .i64 c.xWho, .int .i64 c.xAt, .int .i64 c.xBy, .bool c.xCry] 52)).alloc (.cells #[.slice none 0 0, .slice none 0 0, .int .i64 0, .slice none 0 0, .int .i64 0, .int .i64 0, .int .i64 0, .bool false, .bool false, .int .i64 0, .int .i64 0, .int .i64 0, .int .i64 0, .int .i64 0, .int .i64 0, .int .i64 0] 55)).drew.cell? ⟨w.heap.size + 1, o, none⟩ = (#[.int .i64 c.xWho, .int .i64 c.xAt, .int .i64 c.xBy, .bool c.xCry] : Array Value)[o]?) := ⟨X.at.1, C.at.1⟩
  refine wpAnyH_take (i := 0) (v := ?vn1) rfl (by kernel_rfl) (by kernel_rfl) (by kernel_rfl) (fun _ _ _ h => h) (Or.inl ⟨by rfl, ?hn1⟩) hS ?rn1
  case hn1 => intro w' hSw; go_simp; (try with_reducible rfl)
  (try simp only [List.getElem_toArray]); (try simp only [List.getElem_cons_succ]); (try simp only [List.getElem_cons_zero]); (try simp only [Act.put]); (try simp only [List.setIfInBounds_toArray]); (try simp only [List.set_cons_succ]); (try simp only [List.set_cons_zero])
  refine wpAnyH_take (i := 4) (v := ?vn2) rfl (by kernel_rfl) (by kernel_rfl) (by kernel_rfl) (fun _ _ _ h => h) (Or.inl ⟨by rfl, ?hn2⟩) hS ?rn2
  case hn2 => intro w' hSw; go_simp; (try with_reducible rfl)
  (try simp only [List.getElem_toArray]); (try simp only [List.getElem_cons_succ]); (try simp only [List.getElem_cons_zero]); (try simp only [Act.put]); (try simp only [List.setIfInBounds_toArray]); (try simp only [List.set_cons_succ]); (try simp only [List.set_cons_zero])
  refine wpAnyH_ready (rs := [1, 2, 3]) (by kernel_rfl) (by simp) ?_
  refine AllReadyH.cons (o := _) rfl (fun K hK => ?_) (AllReadyH.cons (o := _) rfl (fun K hK => ?_) (AllReadyH.cons (o := _) rfl (fun K hK => ?_) AllReadyH.nil))
  · rw [if_pos (by rfl)]
    go_simp
    go_at_call 105
    refine (spec_l2Copy _ xss _ ⟨p, d, rfl, hv.below B⟩ hl).mono ?_
    rintro e w2 ⟨u, b0, rfl, T, f0, hb⟩
    obtain ⟨q0, d0, rfl, T⟩ := T
    replace X := X.keep hb
    replace C := C.keep hb
    replace Y := Y.keep hb
    have ltT := T.lt
    have F0 : ∀ y ∈ b0, w.heap.size + 3 ≤ y := fun y hy => Nat.le_trans Sz (f0 y hy)
    replace Sz := Nat.le_trans Sz hb.size
    replace B := B.trans (hb.mono B.size)
    clear hb
    (try dsimp only)
    refine hK.out _ _ ⟨X.at.1, C.at.1⟩ (fun hS => ?_)
    clear hK K
    (try simp only [List.getElem_toArray]); (try simp only [List.getElem_cons_succ]); (try simp only [List.getElem_cons_zero]); (try simp only [Act.put]); (try simp only [List.setIfInBounds_toArray]); (try simp only [List.set_cons_succ]); (try simp only [List.set_cons_zero])
    refine wpAnyH_ready (rs := [2, 3]) (by kernel_rfl) (by simp) ?_
    refine AllReadyH.cons (o := _) rfl (fun K hK => ?_) (AllReadyH.cons (o := _) rfl (fun K hK => ?_) AllReadyH.nil)
    · rw [if_pos (by rfl)]
      go_simp
      replace X := X.alloc (.cells #[.int .i64 0, .int .i64 0, .int .i64 0, .int .i64 0] 2)
      replace C := C.alloc (.cells #[.int .i64 0, .int .i64 0, .int .i64 0, .int .i64 0] 2)
      replace Y := Y.alloc (.cells #[.int .i64 0, .int .i64 0, .int .i64 0, .int .i64 0] 2)
      replace T := T.alloc (.cells #[.int .i64 0, .int .i64 0, .int .i64 0, .int .i64 0] 2)
      have U := Blk.new w2 2 #[.int .i64 0, .int .i64 0, .int .i64 0, .int .i64 0]
      have ltU := U.lt
      have nTU : (w2).heap.size ∉ b0 := fun hm => absurd (ltT _ hm) (by simp)
      have gU : w.heap.size + 3 ≤ (w2).heap.size := Sz
      replace Sz : w.heap.size + 3 ≤ (w2.alloc (.cells #[.int .i64 0, .int .i64 0, .int .i64 0, .int .i64 0] 2)).heap.size := Nat.le_trans Sz (by simp)
      replace B := B.alloc B.size (.cells #[.int .i64 0, .int .i64 0, .int .i64 0, .int .i64 0] 2)
      refine hK.out _ _ ⟨X.at.1, C.at.1⟩ (fun hS => ?_)
      clear hK K
      (try simp only [List.getElem_toArray]); (try simp only [List.getElem_cons_succ]); (try simp only [List.getElem_cons_zero]); (try simp only [Act.put]); (try simp only [List.setIfInBounds_toArray]); (try simp only [List.set_cons_succ]); (try simp only [List.set_cons_zero])
      refine wpAnyH_ready (rs := [3]) (by kernel_rfl) (by simp) ?_
      refine AllReadyH.cons (o := _) rfl (fun K hK => ?_) AllReadyH.nil
      · rw [if_pos (by rfl)]
        go_simp
        replace X := X.alloc (.cells #[.slice none 0 0, .slice none 0 0, .slice none 0 0, .slice none 0 0] 42)
        replace C := C.alloc (.cells #[.slice none 0 0, .slice none 0 0, .slice none 0 0, .slice none 0 0] 42)
        replace Y := Y.alloc (.cells #[.slice none 0 0, .slice none 0 0, .slice none 0 0, .slice none 0 0] 42)
        replace T := T.alloc (.cells #[.slice none 0 0, .slice none 0 0, .slice none 0 0, .slice none 0 0] 42)
        have nUH : _ ≠ _ := Nat.ne_of_lt U.lt
        replace U := U.alloc (.cells #[.slice none 0 0, .slice none 0 0, .slice none 0 0, .slice none 0 0] 42)
        have H := Blk.new (w2.alloc (.cells #[.int .i64 0, .int .i64 0, .int .i64 0, .int .i64 0] 2)) 42 #[.slice none 0 0, .slice none 0 0, .slice none 0 0, .slice none 0 0]
        have ltH := H.lt
        have nTH : ((w2.alloc (.cells #[.int .i64 0, .int .i64 0, .int .i64 0, .int .i64 0] 2))).heap.size ∉ b0 := fun hm => absurd (ltT _ hm) (by simp)
        have gH : w.heap.size + 3 ≤ ((w2.alloc (.cells #[.int .i64 0, .int .i64 0, .int .i64 0, .int .i64 0] 2))).heap.size := Sz
        replace Sz : w.heap.size + 3 ≤ ((w2.alloc (.cells #[.int .i64 0, .int .i64 0, .int .i64 0, .int .i64 0] 2)).alloc (.cells #[.slice none 0 0, .slice none 0 0, .slice none 0 0, .slice none 0 0] 42)).heap.size := Nat.le_trans Sz (by simp)
        replace B := B.alloc B.size (.cells #[.slice none 0 0, .slice none 0 0, .slice none 0 0, .slice none 0 0] 42)
        refine hK.out _ _ ⟨X.at.1, C.at.1⟩ (fun hS => ?_)
        clear hK K
        (try simp only [List.getElem_toArray]); (try simp only [List.getElem_cons_succ]); (try simp only [List.getElem_cons_zero]); (try simp only [Act.put]); (try simp only [List.setIfInBounds_toArray]); (try simp only [List.set_cons_succ]); (try simp only [List.set_cons_zero])
        refine wpAnyH_take (i := 5) (v := .agg #[.slice q0 xss.length d0, .slice (some ⟨w2.heap.size, 0, none⟩) 4 4, .int .i64 0, .slice (some ⟨w2.heap.size + 1, 0, none⟩) 4 4, .int .i64 c.xWho, .int .i64 c.xAt, .int .i64 c.xBy, .bool c.xCry, .bool false, .int .i64 0, .int .i64 0, .int .i64 0, .int .i64 0, .int .i64 0, .int .i64 0, .int .i64 0]) rfl (by kernel_rfl) (by kernel_rfl) (by kernel_rfl) (fun _ _ _ h => h) (Or.inl ⟨by rfl, ?_⟩) hS ?_
        · intro w' hSw
          go_simp
        (try simp only [List.getElem_toArray]); (try simp only [List.getElem_cons_succ]); (try simp only [List.getElem_cons_zero]); (try simp only [Act.put]); (try simp only [List.setIfInBounds_toArray]); (try simp only [List.set_cons_succ]); (try simp only [List.set_cons_zero])
        refine wpAnyH_ready (rs := [6]) (by kernel_rfl) (by simp) ?_
        refine AllReadyH.cons (o := _) rfl (fun K hK => ?_) AllReadyH.nil
        refine step_store_blk rfl 55 _ _ rfl (w.heap.size + 1 + 1) _ rfl rfl Y rfl (by kernel_rfl) (by kernel_rfl) ?_
        intro w9 Y9 O9
        refine hK.out _ _ ⟨(X.off O9 (ne_one (by omega))).at.1, (C.off O9 (ne_one (by omega))).at.1⟩ (fun hS => ?_)
        clear hK K
        (try simp only [List.getElem_toArray]); (try simp only [List.getElem_cons_succ]); (try simp only [List.getElem_cons_zero]); (try simp only [Act.put]); (try simp only [List.setIfInBounds_toArray]); (try simp only [List.set_cons_succ]); (try simp only [List.set_cons_zero])
        refine wpAnyH_done (by kernel_rfl) ?_ _
        have no9 : ∀ y, w.heap.size + 3 ≤ y → y ∉ [w.heap.size + 1 + 1] := fun y hy hm => by simp at hm; omega
        have N9 := OwNet.fresh (c := c) (T.off O9 (fun y hy => no9 y (F0 y hy))) (U.off O9 (no9 _ gU)) (H.off O9 (no9 _ gH)) nTU nTH nUH
        have B9 : Below w.heap.size w w9 := B.trans (O9.toBelow B.size (by simp; omega))
        go_wp2
        exact bodyPost_ret (v := .agg _) (results_blk Try.results77 rfl Y9 Try.underlying55 rfl (by kernel_rfl)) rfl ⟨_, b0, [w2.heap.size], [(w2.alloc (.cells #[.int .i64 0, .int .i64 0, .int .i64 0, .int .i64 0] 2)).heap.size], rfl, by simpa using N9, fun y hy => by have := F0 y hy; omega, fun y hy => by rw [List.mem_singleton] at hy; rw [hy]; omega, fun y hy => by rw [List.mem_singleton] at hy; rw [hy]; omega, B9⟩
    · rw [if_pos (by rfl)]
      go_simp
      replace X := X.alloc (.cells #[.slice none 0 0, .slice none 0 0, .slice none 0 0, .slice none 0 0] 42)
      replace C := C.alloc (.cells #[.slice none 0 0, .slice none 0 0, .slice none 0 0, .slice none 0 0] 42)
      replace Y := Y.alloc (.cells #[.slice none 0 0, .slice none 0 0, .slice none 0 0, .slice none 0 0] 42)
      replace T := T.alloc (.cells #[.slice none 0 0, .slice none 0 0, .slice none 0 0, .slice none 0 0] 42)
      have H := Blk.new w2 42 #[.slice none 0 0, .slice none 0 0, .slice none 0 0, .slice none 0 0]
      have ltH := H.lt
      have nTH : (w2).heap.size ∉ b0 := fun hm => absurd (ltT _ hm) (by simp)
      have gH : w.heap.size + 3 ≤ (w2).heap.size := Sz
      replace Sz : w.heap.size + 3 ≤ (w2.alloc (.cells #[.slice none 0 0, .slice none 0 0, .slice none 0 0, .slice none 0 0] 42)).heap.size := Nat.le_trans Sz (by simp)
      replace B := B.alloc B.size (.cells #[.slice none 0 0, .slice none 0 0, .slice none 0 0, .slice none 0 0] 42)
      refine hK.out _ _ ⟨X.at.1, C.at.1⟩ (fun hS => ?_)
      clear hK K
      (try simp only [List.getElem_toArray]); (try simp only [List.getElem_cons_succ]); (try simp only [List.getElem_cons_zero]); (try simp only [Act.put]); (try simp only [List.setIfInBounds_toArray]); (try simp only [List.set_cons_succ]); (try simp only [List.set_cons_zero])
      refine wpAnyH_ready (rs := [2]) (by kernel_rfl) (by simp) ?_
      refine AllReadyH.cons (o := _) rfl (fun K hK => ?_) AllReadyH.nil
      · rw [if_pos (by rfl)]
        go_simp
        replace X := X.alloc (.cells #[.int .i64 0, .int .i64 0, .int .i64 0, .int .i64 0] 2)
        replace C := C.alloc (.cells #[.int .i64 0, .int .i64 0, .int .i64 0, .int .i64 0] 2)
        replace Y := Y.alloc (.cells #[.int .i64 0, .int .i64 0, .int .i64 0, .int .i64 0] 2)
        replace T := T.alloc (.cells #[.int .i64 0, .int .i64 0, .int .i64 0, .int .i64 0] 2)
        have nUH : _ ≠ _ := (Nat.ne_of_lt H.lt).symm
        replace H := H.alloc (.cells #[.int .i64 0, .int .i64 0, .int .i64 0, .int .i64 0] 2)
        have U := Blk.new (w2.alloc (.cells #[.slice none 0 0, .slice none 0 0, .slice none 0 0, .slice none 0 0] 42)) 2 #[.int .i64 0, .int .i64 0, .int .i64 0, .int .i64 0]
        have ltU := U.lt
        have nTU : ((w2.alloc (.cells #[.slice none 0 0, .slice none 0 0, .slice none 0 0, .slice none 0 0] 42))).heap.size ∉ b0 := fun hm => absurd (ltT _ hm) (by simp)
        have gU : w.heap.size + 3 ≤ ((w2.alloc (.cells #[.slice none 0 0, .slice none 0 0, .slice none 0 0, .slice none 0 0] 42))).heap.size := Sz
        replace Sz : w.heap.size + 3 ≤ ((w2.alloc (.cells #[.slice none 0 0, .slice none 0 0, .slice none 0 0, .slice none 0 0] 42)).alloc (.cells #[.int .i64 0, .int .i64 0, .int .i64 0, .int .i64 0] 2)).heap.size := Nat.le_trans Sz (by simp)
        replace B := B.alloc B.size (.cells #[.int .i64 0, .int .i64 0, .int .i64 0, .int .i64 0] 2)
        refine hK.out _ _ ⟨X.at.1, C.at.1⟩ (fun hS => ?_)
        clear hK K
        (try simp only [List.getElem_toArray]); (try simp only [List.getElem_cons_succ]); (try simp only [List.getElem_cons_zero]); (try simp only [Act.put]); (try simp only [List.setIfInBounds_toArray]); (try simp only [List.set_cons_succ]); (try simp only [List.set_cons_zero])
        refine wpAnyH_take (i := 5) (v := .agg #[.slice q0 xss.length d0, .slice (some ⟨w2.heap.size + 1, 0, none⟩) 4 4, .int .i64 0, .slice (some ⟨w2.heap.size, 0, none⟩) 4 4, .int .i64 c.xWho, .int .i64 c.xAt, .int .i64 c.xBy, .bool c.xCry, .bool false, .int .i64 0, .int .i64 0, .int .i64 0, .int .i64 0, .int .i64 0, .int .i64 0, .int .i64 0]) rfl (by kernel_rfl) (by kernel_rfl) (by kernel_rfl) (fun _ _ _ h => h) (Or.inl ⟨by rfl, ?_⟩) hS ?_
        · intro w' hSw
          go_simp
        (try simp only [List.getElem_toArray]); (try simp only [List.getElem_cons_succ]); (try simp only [List.getElem_cons_zero]); (try simp only [Act.put]); (try simp only [List.setIfInBounds_toArray]); (try simp only [List.set_cons_succ]); (try simp only [List.set_cons_zero])
        refine wpAnyH_ready (rs := [6]) (by kernel_rfl) (by simp) ?_
        refine AllReadyH.cons (o := _) rfl (fun K hK => ?_) AllReadyH.nil
        refine step_store_blk rfl 55 _ _ rfl (w.heap.size + 1 + 1) _ rfl rfl Y rfl (by kernel_rfl) (by kernel_rfl) ?_
        intro w9 Y9 O9
        refine hK.out _ _ ⟨(X.off O9 (ne_one (by omega))).at.1, (C.off O9 (ne_one (by omega))).at.1⟩ (fun hS => ?_)
        clear hK K
        (try simp only [List.getElem_toArray]); (try simp only [List.getElem_cons_succ]); (try simp only [List.getElem_cons_zero]); (try simp only [Act.put]); (try simp only [List.setIfInBounds_toArray]); (try simp only [List.set_cons_succ]); (try simp only [List.set_cons_zero])
        refine wpAnyH_done (by kernel_rfl) ?_ _
        have no9 : ∀ y, w.heap.size + 3 ≤ y → y ∉ [w.heap.size + 1 + 1] := fun y hy hm => by simp at hm; omega
        have N9 := OwNet.fresh (c := c) (T.off O9 (fun y hy => no9 y (F0 y hy))) (U.off O9 (no9 _ gU)) (H.off O9 (no9 _ gH)) nTU nTH nUH
        have B9 : Below w.heap.size w w9 := B.trans (O9.toBelow B.size (by simp; omega))
        go_wp2
        exact bodyPost_ret (v := .agg _) (results_blk Try.results77 rfl Y9 Try.underlying55 rfl (by kernel_rfl)) rfl ⟨_, b0, [(w2.alloc (.cells #[.slice none 0 0, .slice none 0 0, .slice none 0 0, .slice none 0 0] 42)).heap.size], [w2.heap.size], rfl, by simpa using N9, fun y hy => by have := F0 y hy; omega, fun y hy => by rw [List.mem_singleton] at hy; rw [hy]; omega, fun y hy => by rw [List.mem_singleton] at hy; rw [hy]; omega, B9⟩
  · rw [if_pos (by rfl)]
    go_simp
    replace X := X.alloc (.cells #[.int .i64 0, .int .i64 0, .int .i64 0, .int .i64 0] 2)
    replace C := C.alloc (.cells #[.int .i64 0, .int .i64 0, .int .i64 0, .int .i64 0] 2)
    replace Y := Y.alloc (.cells #[.int .i64 0, .int .i64 0, .int .i64 0, .int .i64 0] 2)
    have U := Blk.new (((w.alloc (.cells #[.slice p xss.length d] 51)).alloc (.cells #[.int .i64 c.xWho, .int .i64 c.xAt, .int .i64 c.xBy, .bool c.xCry] 52)).alloc (.cells #[.slice none 0 0, .slice none 0 0, .int .i64 0, .slice none 0 0, .int .i64 0, .int .i64 0, .int .i64 0, .bool false, .bool false, .int .i64 0, .int .i64 0, .int .i64 0, .int .i64 0, .int .i64 0, .int .i64 0, .int .i64 0] 55)).drew 2 #[.int .i64 0, .int .i64 0, .int .i64 0, .int .i64 0]
    have ltU := U.lt
    have gU : w.heap.size + 3 ≤ ((((w.alloc (.cells #[.slice p xss.length d] 51)).alloc (.cells #[.int .i64 c.xWho, .int .i64 c.xAt, .int .i64 c.xBy, .bool c.xCry] 52)).alloc (.cells #[.slice none 0 0, .slice none 0 0, .int .i64 0, .slice none 0 0, .int .i64 0, .int .i64 0, .int .i64 0, .bool false, .bool false, .int .i64 0, .int .i64 0, .int .i64 0, .int .i64 0, .int .i64 0, .int .i64 0, .int .i64 0] 55)).drew).heap.size := Sz
    replace Sz : w.heap.size + 3 ≤ ((((w.alloc (.cells #[.slice p xss.length d] 51)).alloc (.cells #[.int .i64 c.xWho, .int .i64 c.xAt, .int .i64 c.xBy, .bool c.xCry] 52)).alloc (.cells #[.slice none 0 0, .slice none 0 0, .int .i64 0, .slice none 0 0, .int .i64 0, .int .i64 0, .int .i64 0, .bool false, .bool false, .int .i64 0, .int .i64 0, .int .i64 0, .int .i64 0, .int .i64 0, .int .i64 0, .int .i64 0] 55)).drew.alloc (.cells #[.int .i64 0, .int .i64 0, .int .i64 0, .int .i64 0] 2)).heap.size := Nat.le_trans Sz (by simp)
    replace B := B.alloc B.size (.cells #[.int .i64 0, .int .i64 0, .int .i64 0, .int .i64 0] 2)
    refine hK.out _ _ ⟨X.at.1, C.at.1⟩ (fun hS => ?_)
    clear hK K
    (try simp only [List.getElem_toArray]); (try simp only [List.getElem_cons_succ]); (try simp only [List.getElem_cons_zero]); (try simp only [Act.put]); (try simp only [List.setIfInBounds_toArray]); (try simp only [List.set_cons_succ]); (try simp only [List.set_cons_zero])
    refine wpAnyH_ready (rs := [1, 3]) (by kernel_rfl) (by simp) ?_
    refine AllReadyH.cons (o := _) rfl (fun K hK => ?_) (AllReadyH.cons (o := _) rfl (fun K hK => ?_) AllReadyH.nil)
    · rw [if_pos (by rfl)]
      go_simp
      go_at_call 105
      refine (spec_l2Copy _ xss _ ⟨p, d, rfl, hv.below B⟩ hl).mono ?_
      rintro e w2 ⟨u, b0, rfl, T, f0, hb⟩
      obtain ⟨q0, d0, rfl, T⟩ := T
      replace X := X.keep hb
      replace C := C.keep hb
      replace Y := Y.keep hb
      have nTU : _ ∉ b0 := fun hm => Nat.not_lt.2 (f0 _ hm) U.lt
      replace U := U.keep hb
      have ltT := T.lt
      have F0 : ∀ y ∈ b0, w.heap.size + 3 ≤ y := fun y hy => Nat.le_trans Sz (f0 y hy)
      replace Sz := Nat.le_trans Sz hb.size
      replace B := B.trans (hb.mono B.size)
      clear hb
      (try dsimp only)
      refine hK.out _ _ ⟨X.at.1, C.at.1⟩ (fun hS => ?_)
      clear hK K
      (try simp only [List.getElem_toArray]); (try simp only [List.getElem_cons_succ]); (try simp only [List.getElem_cons_zero]); (try simp only [Act.put]); (try simp only [List.setIfInBounds_toArray]); (try simp only [List.set_cons_succ]); (try simp only [List.set_cons_zero])
      refine wpAnyH_ready (rs := [3]) (by kernel_rfl) (by simp) ?_
      refine AllReadyH.cons (o := _) rfl (fun K hK => ?_) AllReadyH.nil
      · rw [if_pos (by rfl)]
        go_simp
        replace X := X.alloc (.cells #[.slice none 0 0, .slice none 0 0, .slice none 0 0, .slice none 0 0] 42)
        replace C := C.alloc (.cells #[.slice none 0 0, .slice none 0 0, .slice none 0 0, .slice none 0 0] 42)
        replace Y := Y.alloc (.cells #[.slice none 0 0, .slice none 0 0, .slice none 0 0, .slice none 0 0] 42)
        have nUH : _ ≠ _ := Nat.ne_of_lt U.lt
        replace U := U.alloc (.cells #[.slice none 0 0, .slice none 0 0, .slice none 0 0, .slice none 0 0] 42)
        replace T := T.alloc (.cells #[.slice none 0 0, .slice none 0 0, .slice none 0 0, .slice none 0 0] 42)
        have H := Blk.new w2 42 #[.slice none 0 0, .slice none 0 0, .slice none 0 0, .slice none 0 0]
        have ltH := H.lt
        have nTH : (w2).heap.size ∉ b0 := fun hm => absurd (ltT _ hm) (by simp)
        have gH : w.heap.size + 3 ≤ (w2).heap.size := Sz
        replace Sz : w.heap.size + 3 ≤ (w2.alloc (.cells #[.slice none 0 0, .slice none 0 0, .slice none 0 0, .slice none 0 0] 42)).heap.size := Nat.le_trans Sz (by simp)
        replace B := B.alloc B.size (.cells #[.slice none 0 0, .slice none 0 0, .slice none 0 0, .slice none 0 0] 42)
        refine hK.out _ _ ⟨X.at.1, C.at.1⟩ (fun hS => ?_)
        clear hK K
        (try simp only [List.getElem_toArray]); (try simp only [List.getElem_cons_succ]); (try simp only [List.getElem_cons_zero]); (try simp only [Act.put]); (try simp only [List.setIfInBounds_toArray]); (try simp only [List.set_cons_succ]); (try simp only [List.set_cons_zero])
        refine wpAnyH_take (i := 5) (v := .agg #[.slice q0 xss.length d0, .slice (some ⟨w.heap.size + 1 + 1 + 1, 0, none⟩) 4 4, .int .i64 0, .slice (some ⟨w2.heap.size, 0, none⟩) 4 4, .int .i64 c.xWho, .int .i64 c.xAt, .int .i64 c.xBy, .bool c.xCry, .bool false, .int .i64 0, .int .i64 0, .int .i64 0, .int .i64 0, .int .i64 0, .int .i64 0, .int .i64 0]) rfl (by kernel_rfl) (by kernel_rfl) (by kernel_rfl) (fun _ _ _ h => h) (Or.inl ⟨by rfl, ?_⟩) hS ?_
        · intro w' hSw
          go_simp
        (try simp only [List.getElem_toArray]); (try simp only [List.getElem_cons_succ]); (try simp only [List.getElem_cons_zero]); (try simp only [Act.put]); (try simp only [List.setIfInBounds_toArray]); (try simp only [List.set_cons_succ]); (try simp only [List.set_cons_zero])
        refine wpAnyH_ready (rs := [6]) (by kernel_rfl) (by simp) ?_
        refine AllReadyH.cons (o := _) rfl (fun K hK => ?_) AllReadyH.nil
        refine step_store_blk rfl 55 _ _ rfl (w.heap.size + 1 + 1) _ rfl rfl Y rfl (by kernel_rfl) (by kernel_rfl) ?_
        intro w9 Y9 O9
        refine hK.out _ _ ⟨(X.off O9 (ne_one (by omega))).at.1, (C.off O9 (ne_one (by omega))).at.1⟩ (fun hS => ?_)
        clear hK K
        (try simp only [List.getElem_toArray]); (try simp only [List.getElem_cons_succ]); (try simp only [List.getElem_cons_zero]); (try simp only [Act.put]); (try simp only [List.setIfInBounds_toArray]); (try simp only [List.set_cons_succ]); (try simp only [List.set_cons_zero])
        refine wpAnyH_done (by kernel_rfl) ?_ _
        have no9 : ∀ y, w.heap.size + 3 ≤ y → y ∉ [w.heap.size + 1 + 1] := fun y hy hm => by simp at hm; omega
        have N9 := OwNet.fresh (c := c) (T.off O9 (fun y hy => no9 y (F0 y hy))) (U.off O9 (no9 _ gU)) (H.off O9 (no9 _ gH)) nTU nTH nUH
        have B9 : Below w.heap.size w w9 := B.trans (O9.toBelow B.size (by simp; omega))
        go_wp2
        exact bodyPost_ret (v := .agg _) (results_blk Try.results77 rfl Y9 Try.underlying55 rfl (by kernel_rfl)) rfl ⟨_, b0, [(((w.alloc (.cells #[.slice p xss.length d] 51)).alloc (.cells #[.int .i64 c.xWho, .int .i64 c.xAt, .int .i64 c.xBy, .bool c.xCry] 52)).alloc (.cells #[.slice none 0 0, .slice none 0 0, .int .i64 0, .slice none 0 0, .int .i64 0, .int .i64 0, .int .i64 0, .bool false, .bool false, .int .i64 0, .int .i64 0, .int .i64 0, .int .i64 0, .int .i64 0, .int .i64 0, .int .i64 0] 55)).drew.heap.size], [w2.heap.size], rfl, by simpa using N9, fun y hy => by have := F0 y hy; omega, fun y hy => by rw [List.mem_singleton] at hy; rw [hy]; omega, fun y hy => by rw [List.mem_singleton] at hy; rw [hy]; omega, B9⟩
    · rw [if_pos (by rfl)]
      go_simp
      replace X := X.alloc (.cells #[.slice none 0 0, .slice none 0 0, .slice none 0 0, .slice none 0 0] 42)
      replace C := C.alloc (.cells #[.slice none 0 0, .slice none 0 0, .slice none 0 0, .slice none 0 0] 42)
      replace Y := Y.alloc (.cells #[.slice none 0 0, .slice none 0 0, .slice none 0 0, .slice none 0 0] 42)
      have nUH : _ ≠ _ := Nat.ne_of_lt U.lt
      replace U := U.alloc (.cells #[.slice none 0 0, .slice none 0 0, .slice none 0 0, .slice none 0 0] 42)
      have H := Blk.new ((((w.alloc (.cells #[.slice p xss.length d] 51)).alloc (.cells #[.int .i64 c.xWho, .int .i64 c.xAt, .int .i64 c.xBy, .bool c.xCry] 52)).alloc (.cells #[.slice none 0 0, .slice none 0 0, .int .i64 0, .slice none 0 0, .int .i64 0, .int .i64 0, .int .i64 0, .bool false, .bool false, .int .i64 0, .int .i64 0, .int .i64 0, .int .i64 0, .int .i64 0, .int .i64 0, .int .i64 0] 55)).drew.alloc (.cells #[.int .i64 0, .int .i64 0, .int .i64 0, .int .i64 0] 2)) 42 #[.slice none 0 0, .slice none 0 0, .slice none 0 0, .slice none 0 0]
      have ltH := H.lt
      have gH : w.heap.size + 3 ≤ (((((w.alloc (.cells #[.slice p xss.length d] 51)).alloc (.cells #[.int .i64 c.xWho, .int .i64 c.xAt, .int .i64 c.xBy, .bool c.xCry] 52)).alloc (.cells #[.slice none 0 0, .slice none 0 0, .int .i64 0, .slice none 0 0, .int .i64 0, .int .i64 0, .int .i64 0, .bool false, .bool false, .int .i64 0, .int .i64 0, .int .i64 0, .int .i64 0, .int .i64 0, .int .i64 0, .int .i64 0] 55)).drew.alloc (.cells #[.int .i64 0, .int .i64 0, .int .i64 0, .int .i64 0] 2))).heap.size := Sz
      replace Sz : w.heap.size + 3 ≤ (((((w.alloc (.cells #[.slice p xss.length d] 51)).alloc (.cells #[.int .i64 c.xWho, .int .i64 c.xAt, .int .i64 c.xBy, .bool c.xCry] 52)).alloc (.cells #[.slice none 0 0, .slice none 0 0, .int .i64 0, .slice none 0 0, .int .i64 0, .int .i64 0, .int .i64 0, .bool false, .bool false, .int .i64 0, .int .i64 0, .int .i64 0, .int .i64 0, .int .i64 0, .int .i64 0, .int .i64 0] 55)).drew.alloc (.cells #[.int .i64 0, .int .i64 0, .int .i64 0, .int .i64 0] 2)).alloc (.cells #[.slice none 0 0, .slice none 0 0, .slice none 0 0, .slice none 0 0] 42)).heap.size := Nat.le_trans Sz (by simp)
      replace B := B.alloc B.size (.cells #[.slice none 0 0, .slice none 0 0, .slice none 0 0, .slice none 0 0] 42)
      refine hK.out _ _ ⟨X.at.1, C.at.1⟩ (fun hS => ?_)
      clear hK K
      (try simp only [List.getElem_toArray]); (try simp only [List.getElem_cons_succ]); (try simp only [List.getElem_cons_zero]); (try simp only [Act.put]); (try simp only [List.setIfInBounds_toArray]); (try simp only [List.set_cons_succ]); (try simp only [List.set_cons_zero])
      refine wpAnyH_ready (rs := [1]) (by kernel_rfl) (by simp) ?_
      refine AllReadyH.cons (o := _) rfl (fun K hK => ?_) AllReadyH.nil
      · rw [if_pos (by rfl)]
        go_simp
        go_at_call 105
        refine (spec_l2Copy _ xss _ ⟨p, d, rfl, hv.below B⟩ hl).mono ?_
        rintro e w2 ⟨u, b0, rfl, T, f0, hb⟩
        obtain ⟨q0, d0, rfl, T⟩ := T
        replace X := X.keep hb
        replace C := C.keep hb
        replace Y := Y.keep hb
        have nTU : _ ∉ b0 := fun hm => Nat.not_lt.2 (f0 _ hm) U.lt
        replace U := U.keep hb
        have nTH : _ ∉ b0 := fun hm => Nat.not_lt.2 (f0 _ hm) H.lt
        replace H := H.keep hb
        have ltT := T.lt
        have F0 : ∀ y ∈ b0, w.heap.size + 3 ≤ y := fun y hy => Nat.le_trans Sz (f0 y hy)
        replace Sz := Nat.le_trans Sz hb.size
        replace B := B.trans (hb.mono B.size)
        clear hb
        (try dsimp only)
        refine hK.out _ _ ⟨X.at.1, C.at.1⟩ (fun hS => ?_)
        clear hK K
        (try simp only [List.getElem_toArray]); (try simp only [List.getElem_cons_succ]); (try simp only [List.getElem_cons_zero]); (try simp only [Act.put]); (try simp only [List.setIfInBounds_toArray]); (try simp only [List.set_cons_succ]); (try simp only [List.set_cons_zero])
        refine wpAnyH_take (i := 5) (v := .agg #[.slice q0 xss.length d0, .slice (some ⟨w.heap.size + 1 + 1 + 1, 0, none⟩) 4 4, .int .i64 0, .slice (some ⟨w.heap.size + 1 + 1 + 1 + 1, 0, none⟩) 4 4, .int .i64 c.xWho, .int .i64 c.xAt, .int .i64 c.xBy, .bool c.xCry, .bool false, .int .i64 0, .int .i64 0, .int .i64 0, .int .i64 0, .int .i64 0, .int .i64 0, .int .i64 0]) rfl (by kernel_rfl) (by kernel_rfl) (by kernel_rfl) (fun _ _ _ h => h) (Or.inl ⟨by rfl, ?_⟩) hS ?_
        · intro w' hSw
          go_simp
        (try simp only [List.getElem_toArray]); (try simp only [List.getElem_cons_succ]); (try simp only [List.getElem_cons_zero]); (try simp only [Act.put]); (try simp only [List.setIfInBounds_toArray]); (try simp only [List.set_cons_succ]); (try simp only [List.set_cons_zero])
        refine wpAnyH_ready (rs := [6]) (by kernel_rfl) (by simp) ?_
        refine AllReadyH.cons (o := _) rfl (fun K hK => ?_) AllReadyH.nil
        refine step_store_blk rfl 55 _ _ rfl (w.heap.size + 1 + 1) _ rfl rfl Y rfl (by kernel_rfl) (by kernel_rfl) ?_
        intro w9 Y9 O9
        refine hK.out _ _ ⟨(X.off O9 (ne_one (by omega))).at.1, (C.off O9 (ne_one (by omega))).at.1⟩ (fun hS => ?_)
        clear hK K
        (try simp only [List.getElem_toArray]); (try simp only [List.getElem_cons_succ]); (try simp only [List.getElem_cons_zero]); (try simp only [Act.put]); (try simp only [List.setIfInBounds_toArray]); (try simp only [List.set_cons_succ]); (try simp only [List.set_cons_zero])
        refine wpAnyH_done (by kernel_rfl) ?_ _
        have no9 : ∀ y, w.heap.size + 3 ≤ y → y ∉ [w.heap.size + 1 + 1] := fun y hy hm => by simp at hm; omega
        have N9 := OwNet.fresh (c := c) (T.off O9 (fun y hy => no9 y (F0 y hy))) (U.off O9 (no9 _ gU)) (H.off O9 (no9 _ gH)) nTU nTH nUH
        have B9 : Below w.heap.size w w9 := B.trans (O9.toBelow B.size (by simp; omega))
        go_wp2
        exact bodyPost_ret (v := .agg _) (results_blk Try.results77 rfl Y9 Try.underlying55 rfl (by kernel_rfl)) rfl ⟨_, b0, [(((w.alloc (.cells #[.slice p xss.length d] 51)).alloc (.cells #[.int .i64 c.xWho, .int .i64 c.xAt, .int .i64 c.xBy, .bool c.xCry] 52)).alloc (.cells #[.slice none 0 0, .slice none 0 0, .int .i64 0, .slice none 0 0, .int .i64 0, .int .i64 0, .int .i64 0, .bool false, .bool false, .int .i64 0, .int .i64 0, .int .i64 0, .int .i64 0, .int .i64 0, .int .i64 0, .int .i64 0] 55)).drew.heap.size], [((((w.alloc (.cells #[.slice p xss.length d] 51)).alloc (.cells #[.int .i64 c.xWho, .int .i64 c.xAt, .int .i64 c.xBy, .bool c.xCry] 52)).alloc (.cells #[.slice none 0 0, .slice none 0 0, .int .i64 0, .slice none 0 0, .int .i64 0, .int .i64 0, .int .i64 0, .bool false, .bool false, .int .i64 0, .int .i64 0, .int .i64 0, .int .i64 0, .int .i64 0, .int .i64 0, .int .i64 0] 55)).drew.alloc (.cells #[.int .i64 0, .int .i64 0, .int .i64 0, .int .i64 0] 2)).heap.size], rfl, by simpa using N9, fun y hy => by have := F0 y hy; omega, fun y hy => by rw [List.mem_singleton] at hy; rw [hy]; omega, fun y hy => by rw [List.mem_singleton] at hy; rw [hy]; omega, B9⟩
  · rw [if_pos (by rfl)]
    go_simp
    replace X := X.alloc (.cells #[.slice none 0 0, .slice none 0 0, .slice none 0 0, .slice none 0 0] 42)
    replace C := C.alloc (.cells #[.slice none 0 0, .slice none 0 0, .slice none 0 0, .slice none 0 0] 42)
    replace Y := Y.alloc (.cells #[.slice none 0 0, .slice none 0 0, .slice none 0 0, .slice none 0 0] 42)
    have H := Blk.new (((w.alloc (.cells #[.slice p xss.length d] 51)).alloc (.cells #[.int .i64 c.xWho, .int .i64 c.xAt, .int .i64 c.xBy, .bool c.xCry] 52)).alloc (.cells #[.slice none 0 0, .slice none 0 0, .int .i64 0, .slice none 0 0, .int .i64 0, .int .i64 0, .int .i64 0, .bool false, .bool false, .int .i64 0, .int .i64 0, .int .i64 0, .int .i64 0, .int .i64 0, .int .i64 0, .int .i64 0] 55)).drew 42 #[.slice none 0 0, .slice none 0 0, .slice none 0 0, .slice none 0 0]
    have ltH := H.lt
    have gH : w.heap.size + 3 ≤ ((((w.alloc (.cells #[.slice p xss.length d] 51)).alloc (.cells #[.int .i64 c.xWho, .int .i64 c.xAt, .int .i64 c.xBy, .bool c.xCry] 52)).alloc (.cells #[.slice none 0 0, .slice none 0 0, .int .i64 0, .slice none 0 0, .int .i64 0, .int .i64 0, .int .i64 0, .bool false, .bool false, .int .i64 0, .int .i64 0, .int .i64 0, .int .i64 0, .int .i64 0, .int .i64 0, .int .i64 0] 55)).drew).heap.size := Sz
    replace Sz : w.heap.size + 3 ≤ ((((w.alloc (.cells #[.slice p xss.length d] 51)).alloc (.cells #[.int .i64 c.xWho, .int .i64 c.xAt, .int .i64 c.xBy, .bool c.xCry] 52)).alloc (.cells #[.slice none 0 0, .slice none 0 0, .int .i64 0, .slice none 0 0, .int .i64 0, .int .i64 0, .int .i64 0, .bool false, .bool false, .int .i64 0, .int .i64 0, .int .i64 0, .int .i64 0, .int .i64 0, .int .i64 0, .int .i64 0] 55)).drew.alloc (.cells #[.slice none 0 0, .slice none 0 0, .slice none 0 0, .slice none 0 0] 42)).heap.size := Nat.le_trans Sz (by simp)
    replace B := B.alloc B.size (.cells #[.slice none 0 0, .slice none 0 0, .slice none 0 0, .slice none 0 0] 42)
    refine hK.out _ _ ⟨X.at.1, C.at.1⟩ (fun hS => ?_)
    clear hK K
    (try simp only [List.getElem_toArray]); (try simp only [List.getElem_cons_succ]); (try simp only [List.getElem_cons_zero]); (try simp only [Act.put]); (try simp only [List.setIfInBounds_toArray]); (try simp only [List.set_cons_succ]); (try simp only [List.set_cons_zero])
    refine wpAnyH_ready (rs := [1, 2]) (by kernel_rfl) (by simp) ?_
    refine AllReadyH.cons (o := _) rfl (fun K hK => ?_) (AllReadyH.cons (o := _) rfl (fun K hK => ?_) AllReadyH.nil)
    · rw [if_pos (by rfl)]
      go_simp
      go_at_call 105
      refine (spec_l2Copy _ xss _ ⟨p, d, rfl, hv.below B⟩ hl).mono ?_
      rintro e w2 ⟨u, b0, rfl, T, f0, hb⟩
      obtain ⟨q0, d0, rfl, T⟩ := T
      replace X := X.keep hb
      replace C := C.keep hb
      replace Y := Y.keep hb
      have nTH : _ ∉ b0 := fun hm => Nat.not_lt.2 (f0 _ hm) H.lt
      replace H := H.keep hb
      have ltT := T.lt
      have F0 : ∀ y ∈ b0, w.heap.size + 3 ≤ y := fun y hy => Nat.le_trans Sz (f0 y hy)
      replace Sz := Nat.le_trans Sz hb.size
      replace B := B.trans (hb.mono B.size)
      clear hb
      (try dsimp only)
      refine hK.out _ _ ⟨X.at.1, C.at.1⟩ (fun hS => ?_)
      clear hK K
      (try simp only [List.getElem_toArray]); (try simp only [List.getElem_cons_succ]); (try simp only [List.getElem_cons_zero]); (try simp only [Act.put]); (try simp only [List.setIfInBounds_toArray]); (try simp only [List.set_cons_succ]); (try simp only [List.set_cons_zero])
      refine wpAnyH_ready (rs := [2]) (by kernel_rfl) (by simp) ?_
      refine AllReadyH.cons (o := _) rfl (fun K hK => ?_) AllReadyH.nil
      · rw [if_pos (by rfl)]
        go_simp
        replace X := X.alloc (.cells #[.int .i64 0, .int .i64 0, .int .i64 0, .int .i64 0] 2)
        replace C := C.alloc (.cells #[.int .i64 0, .int .i64 0, .int .i64 0, .int .i64 0] 2)
        replace Y := Y.alloc (.cells #[.int .i64 0, .int .i64 0, .int .i64 0, .int .i64 0] 2)
        have nUH : _ ≠ _ := (Nat.ne_of_lt H.lt).symm
        replace H := H.alloc (.cells #[.int .i64 0, .int .i64 0, .int .i64 0, .int .i64 0] 2)
        replace T := T.alloc (.cells #[.int .i64 0, .int .i64 0, .int .i64 0, .int .i64 0] 2)
        have U := Blk.new w2 2 #[.int .i64 0, .int .i64 0, .int .i64 0, .int .i64 0]
        have ltU := U.lt
        have nTU : (w2).heap.size ∉ b0 := fun hm => absurd (ltT _ hm) (by simp)
        have gU : w.heap.size + 3 ≤ (w2).heap.size := Sz
        replace Sz : w.heap.size + 3 ≤ (w2.alloc (.cells #[.int .i64 0, .int .i64 0, .int .i64 0, .int .i64 0] 2)).heap.size := Nat.le_trans Sz (by simp)
        replace B := B.alloc B.size (.cells #[.int .i64 0, .int .i64 0, .int .i64 0, .int .i64 0] 2)
        refine hK.out _ _ ⟨X.at.1, C.at.1⟩ (fun hS => ?_)
        clear hK K
        (try simp only [List.getElem_toArray]); (try simp only [List.getElem_cons_succ]); (try simp only [List.getElem_cons_zero]); (try simp only [Act.put]); (try simp only [List.setIfInBounds_toArray]); (try simp only [List.set_cons_succ]); (try simp only [List.set_cons_zero])
        refine wpAnyH_take (i := 5) (v := .agg #[.slice q0 xss.length d0, .slice (some ⟨w2.heap.size, 0, none⟩) 4 4, .int .i64 0, .slice (some ⟨w.heap.size + 1 + 1 + 1, 0, none⟩) 4 4, .int .i64 c.xWho, .int .i64 c.xAt, .int .i64 c.xBy, .bool c.xCry, .bool false, .int .i64 0, .int .i64 0, .int .i64 0, .int .i64 0, .int .i64 0, .int .i64 0, .int .i64 0]) rfl (by kernel_rfl) (by kernel_rfl) (by kernel_rfl) (fun _ _ _ h => h) (Or.inl ⟨by rfl, ?_⟩) hS ?_
        · intro w' hSw
          go_simp
        (try simp only [List.getElem_toArray]); (try simp only [List.getElem_cons_succ]); (try simp only [List.getElem_cons_zero]); (try simp only [Act.put]); (try simp only [List.setIfInBounds_toArray]); (try simp only [List.set_cons_succ]); (try simp only [List.set_cons_zero])
        refine wpAnyH_ready (rs := [6]) (by kernel_rfl) (by simp) ?_
        refine AllReadyH.cons (o := _) rfl (fun K hK => ?_) AllReadyH.nil
        refine step_store_blk rfl 55 _ _ rfl (w.heap.size + 1 + 1) _ rfl rfl Y rfl (by kernel_rfl) (by kernel_rfl) ?_
        intro w9 Y9 O9
        refine hK.out _ _ ⟨(X.off O9 (ne_one (by omega))).at.1, (C.off O9 (ne_one (by omega))).at.1⟩ (fun hS => ?_)
        clear hK K
        (try simp only [List.getElem_toArray]); (try simp only [List.getElem_cons_succ]); (try simp only [List.getElem_cons_zero]); (try simp only [Act.put]); (try simp only [List.setIfInBounds_toArray]); (try simp only [List.set_cons_succ]); (try simp only [List.set_cons_zero])
        refine wpAnyH_done (by kernel_rfl) ?_ _
        have no9 : ∀ y, w.heap.size + 3 ≤ y → y ∉ [w.heap.size + 1 + 1] := fun y hy hm => by simp at hm; omega
        have N9 := OwNet.fresh (c := c) (T.off O9 (fun y hy => no9 y (F0 y hy))) (U.off O9 (no9 _ gU)) (H.off O9 (no9 _ gH)) nTU nTH nUH
        have B9 : Below w.heap.size w w9 := B.trans (O9.toBelow B.size (by simp; omega))
        go_wp2
        exact bodyPost_ret (v := .agg _) (results_blk Try.results77 rfl Y9 Try.underlying55 rfl (by kernel_rfl)) rfl ⟨_, b0, [w2.heap.size], [(((w.alloc (.cells #[.slice p xss.length d] 51)).alloc (.cells #[.int .i64 c.xWho, .int .i64 c.xAt, .int .i64 c.xBy, .bool c.xCry] 52)).alloc (.cells #[.slice none 0 0, .slice none 0 0, .int .i64 0, .slice none 0 0, .int .i64 0, .int .i64 0, .int .i64 0, .bool false, .bool false, .int .i64 0, .int .i64 0, .int .i64 0, .int .i64 0, .int .i64 0, .int .i64 0, .int .i64 0] 55)).drew.heap.size], rfl, by simpa using N9, fun y hy => by have := F0 y hy; omega, fun y hy => by rw [List.mem_singleton] at hy; rw [hy]; omega, fun y hy => by rw [List.mem_singleton] at hy; rw [hy]; omega, B9⟩
    · rw [if_pos (by rfl)]
      go_simp
      replace X := X.alloc (.cells #[.int .i64 0, .int .i64 0, .int .i64 0, .int .i64 0] 2)
      replace C := C.alloc (.cells #[.int .i64 0, .int .i64 0, .int .i64 0, .int .i64 0] 2)
      replace Y := Y.alloc (.cells #[.int .i64 0, .int .i64 0, .int .i64 0, .int .i64 0] 2)
      have nUH : _ ≠ _ := (Nat.ne_of_lt H.lt).symm
      replace H := H.alloc (.cells #[.int .i64 0, .int .i64 0, .int .i64 0, .int .i64 0] 2)
      have U := Blk.new ((((w.alloc (.cells #[.slice p xss.length d] 51)).alloc (.cells #[.int .i64 c.xWho, .int .i64 c.xAt, .int .i64 c.xBy, .bool c.xCry] 52)).alloc (.cells #[.slice none 0 0, .slice none 0 0, .int .i64 0, .slice none 0 0, .int .i64 0, .int .i64 0, .int .i64 0, .bool false, .bool false, .int .i64 0, .int .i64 0, .int .i64 0, .int .i64 0, .int .i64 0, .int .i64 0, .int .i64 0] 55)).drew.alloc (.cells #[.slice none 0 0, .slice none 0 0, .slice none 0 0, .slice none 0 0] 42)) 2 #[.int .i64 0, .int .i64 0, .int .i64 0, .int .i64 0]
      have ltU := U.lt
      have gU : w.heap.size + 3 ≤ (((((w.alloc (.cells #[.slice p xss.length d] 51)).alloc (.cells #[.int .i64 c.xWho, .int .i64 c.xAt, .int .i64 c.xBy, .bool c.xCry] 52)).alloc (.cells #[.slice none 0 0, .slice none 0 0, .int .i64 0, .slice none 0 0, .int .i64 0, .int .i64 0, .int .i64 0, .bool false, .bool false, .int .i64 0, .int .i64 0, .int .i64 0, .int .i64 0, .int .i64 0, .int .i64 0, .int .i64 0] 55)).drew.alloc (.cells #[.slice none 0 0, .slice none 0 0, .slice none 0 0, .slice none 0 0] 42))).heap.size := Sz
      replace Sz : w.heap.size + 3 ≤ (((((w.alloc (.cells #[.slice p xss.length d] 51)).alloc (.cells #[.int .i64 c.xWho, .int .i64 c.xAt, .int .i64 c.xBy, .bool c.xCry] 52)).alloc (.cells #[.slice none 0 0, .slice none 0 0, .int .i64 0, .slice none 0 0, .int .i64 0, .int .i64 0, .int .i64 0, .bool false, .bool false, .int .i64 0, .int .i64 0, .int .i64 0, .int .i64 0, .int .i64 0, .int .i64 0, .int .i64 0] 55)).drew.alloc (.cells #[.slice none 0 0, .slice none 0 0, .slice none 0 0, .slice none 0 0] 42)).alloc (.cells #[.int .i64 0, .int .i64 0, .int .i64 0, .int .i64 0] 2)).heap.size := Nat.le_trans Sz (by simp)
      replace B := B.alloc B.size (.cells #[.int .i64 0, .int .i64 0, .int .i64 0, .int .i64 0] 2)
      refine hK.out _ _ ⟨X.at.1, C.at.1⟩ (fun hS => ?_)
      clear hK K
      (try simp only [List.getElem_toArray]); (try simp only [List.getElem_cons_succ]); (try simp only [List.getElem_cons_zero]); (try simp only [Act.put]); (try simp only [List.setIfInBounds_toArray]); (try simp only [List.set_cons_succ]); (try simp only [List.set_cons_zero])
      refine wpAnyH_ready (rs := [1]) (by kernel_rfl) (by simp) ?_
      refine AllReadyH.cons (o := _) rfl (fun K hK => ?_) AllReadyH.nil
      · rw [if_pos (by rfl)]
        go_simp
        go_at_call 105
        refine (spec_l2Copy _ xss _ ⟨p, d, rfl, hv.below B⟩ hl).mono ?_
        rintro e w2 ⟨u, b0, rfl, T, f0, hb⟩
        obtain ⟨q0, d0, rfl, T⟩ := T
        replace X := X.keep hb
        replace C := C.keep hb
        replace Y := Y.keep hb
        have nTH : _ ∉ b0 := fun hm => Nat.not_lt.2 (f0 _ hm) H.lt
        replace H := H.keep hb
        have nTU : _ ∉ b0 := fun hm => Nat.not_lt.2 (f0 _ hm) U.lt
        replace U := U.keep hb
        have ltT := T.lt
        have F0 : ∀ y ∈ b0, w.heap.size + 3 ≤ y := fun y hy => Nat.le_trans Sz (f0 y hy)
        replace Sz := Nat.le_trans Sz hb.size
        replace B := B.trans (hb.mono B.size)
        clear hb
        (try dsimp only)
        refine hK.out _ _ ⟨X.at.1, C.at.1⟩ (fun hS => ?_)
        clear hK K
        (try simp only [List.getElem_toArray]); (try simp only [List.getElem_cons_succ]); (try simp only [List.getElem_cons_zero]); (try simp only [Act.put]); (try simp only [List.setIfInBounds_toArray]); (try simp only [List.set_cons_succ]); (try simp only [List.set_cons_zero])
        refine wpAnyH_take (i := 5) (v := .agg #[.slice q0 xss.length d0, .slice (some ⟨w.heap.size + 1 + 1 + 1 + 1, 0, none⟩) 4 4, .int .i64 0, .slice (some ⟨w.heap.size + 1 + 1 + 1, 0, none⟩) 4 4, .int .i64 c.xWho, .int .i64 c.xAt, .int .i64 c.xBy, .bool c.xCry, .bool false, .int .i64 0, .int .i64 0, .int .i64 0, .int .i64 0, .int .i64 0, .int .i64 0, .int .i64 0]) rfl (by kernel_rfl) (by kernel_rfl) (by kernel_rfl) (fun _ _ _ h => h) (Or.inl ⟨by rfl, ?_⟩) hS ?_
        · intro w' hSw
          go_simp
        (try simp only [List.getElem_toArray]); (try simp only [List.getElem_cons_succ]); (try simp only [List.getElem_cons_zero]); (try simp only [Act.put]); (try simp only [List.setIfInBounds_toArray]); (try simp only [List.set_cons_succ]); (try simp only [List.set_cons_zero])
        refine wpAnyH_ready (rs := [6]) (by kernel_rfl) (by simp) ?_
        refine AllReadyH.cons (o := _) rfl (fun K hK => ?_) AllReadyH.nil
        refine step_store_blk rfl 55 _ _ rfl (w.heap.size + 1 + 1) _ rfl rfl Y rfl (by kernel_rfl) (by kernel_rfl) ?_
        intro w9 Y9 O9
        refine hK.out _ _ ⟨(X.off O9 (ne_one (by omega))).at.1, (C.off O9 (ne_one (by omega))).at.1⟩ (fun hS => ?_)
        clear hK K
        (try simp only [List.getElem_toArray]); (try simp only [List.getElem_cons_succ]); (try simp only [List.getElem_cons_zero]); (try simp only [Act.put]); (try simp only [List.setIfInBounds_toArray]); (try simp only [List.set_cons_succ]); (try simp only [List.set_cons_zero])
        refine wpAnyH_done (by kernel_rfl) ?_ _
        have no9 : ∀ y, w.heap.size + 3 ≤ y → y ∉ [w.heap.size + 1 + 1] := fun y hy hm => by simp at hm; omega
        have N9 := OwNet.fresh (c := c) (T.off O9 (fun y hy => no9 y (F0 y hy))) (U.off O9 (no9 _ gU)) (H.off O9 (no9 _ gH)) nTU nTH nUH
        have B9 : Below w.heap.size w w9 := B.trans (O9.toBelow B.size (by simp; omega))
        go_wp2
        exact bodyPost_ret (v := .agg _) (results_blk Try.results77 rfl Y9 Try.underlying55 rfl (by kernel_rfl)) rfl ⟨_, b0, [((((w.alloc (.cells #[.slice p xss.length d] 51)).alloc (.cells #[.int .i64 c.xWho, .int .i64 c.xAt, .int .i64 c.xBy, .bool c.xCry] 52)).alloc (.cells #[.slice none 0 0, .slice none 0 0, .int .i64 0, .slice none 0 0, .int .i64 0, .int .i64 0, .int .i64 0, .bool false, .bool false, .int .i64 0, .int .i64 0, .int .i64 0, .int .i64 0, .int .i64 0, .int .i64 0, .int .i64 0] 55)).drew.alloc (.cells #[.slice none 0 0, .slice none 0 0, .slice none 0 0, .slice none 0 0] 42)).heap.size], [(((w.alloc (.cells #[.slice p xss.length d] 51)).alloc (.cells #[.int .i64 c.xWho, .int .i64 c.xAt, .int .i64 c.xBy, .bool c.xCry] 52)).alloc (.cells #[.slice none 0 0, .slice none 0 0, .int .i64 0, .slice none 0 0, .int .i64 0, .int .i64 0, .int .i64 0, .bool false, .bool false, .int .i64 0, .int .i64 0, .int .i64 0, .int .i64 0, .int .i64 0, .int .i64 0, .int .i64 0] 55)).drew.heap.size], rfl, by simpa using N9, fun y hy => by have := F0 y hy; omega, fun y hy => by rw [List.mem_singleton] at hy; rw [hy]; omega, fun y hy => by rw [List.mem_singleton] at hy; rw [hy]; omega, B9⟩
set_option maxHeartbeats 4000000 in
set_option maxRecDepth 100000 in
theorem spec_NewNet (v : Value) (xss : List (List Int)) (u : Value) (c : MCheat) (w : World) (hv : RdTape w v xss) (hu : RdCheat w u c) (hl : tot xss ≤ 1048576) :
    Calls Try.prog 28 #[v, u] w fun e w' => OutNetR w w' (newR xss c) e := by
  obtain ⟨p, d, rfl, hv⟩ := hv
  unfold RdCheat at hu
  subst hu
  have B : Below w.heap.size w (((w.alloc (.cells #[.slice p xss.length d] 51)).alloc (.cells #[.int .i64 c.xWho, .int .i64 c.xAt, .int .i64 c.xBy, .bool c.xCry] 52)).alloc (.cells #[.int .i64 0, .int .i64 0, .slice none 0 0, .slice none 0 0, .int .i64 0, .slice none 0 0, .int .i64 0, .int .i64 0, .int .i64 0, .bool false, .bool false, .int .i64 0, .int .i64 0, .int .i64 0, .int .i64 0, .int .i64 0, .int .i64 0, .int .i64 0] 61)) := (by repeat (first | exact Below.refl _ _ | refine Below.drew ?_ | refine below_drewN ?_ _ | refine Below.setCell ?_ (by first | omega | (simp; done) | (simp; omega)) _ | refine Below.alloc ?_ (by first | omega | (simp; done) | (simp; omega)) _))
  have X : Blk (((w.alloc (.cells #[.slice p xss.length d] 51)).alloc (.cells #[.int .i64 c.xWho, .int .i64 c.xAt, .int .i64 c.xBy, .bool c.xCry] 52)).alloc (.cells #[.int .i64 0, .int .i64 0, .slice none 0 0, .slice none 0 0, .int .i64 0, .slice none 0 0, .int .i64 0, .int .i64 0, .int .i64 0, .bool false, .bool false, .int .i64 0, .int .i64 0, .int .i64 0, .int .i64 0, .int .i64 0, .int .i64 0, .int .i64 0] 61)) w.heap.size 51 #[.slice p xss.length d] := ((Blk.new w _ _).alloc _).alloc _
  have C : Blk (((w.alloc (.cells #[.slice p xss.length d] 51)).alloc (.cells #[.int .i64 c.xWho, .int .i64 c.xAt, .int .i64 c.xBy, .bool c.xCry] 52)).alloc (.cells #[.int .i64 0, .int .i64 0, .slice none 0 0, .slice none 0 0, .int .i64 0, .slice none 0 0, .int .i64 0, .int .i64 0, .int .i64 0, .bool false, .bool false, .int .i64 0, .int .i64 0, .int .i64 0, .int .i64 0, .int .i64 0, .int .i64 0, .int .i64 0] 61)) (w.heap.size + 1) 52 #[.int .i64 c.xWho, .int .i64 c.xAt, .int .i64 c.xBy, .bool c.xCry] := by simpa using (Blk.new (w.alloc (.cells #[.slice p xss.length d] 51)) 52 #[.int .i64 c.xWho, .int .i64 c.xAt, .int .i64 c.xBy, .bool c.xCry]).alloc (.cells #[.int .i64 0, .int .i64 0, .slice none 0 0, .slice none 0 0, .int .i64 0, .slice none 0 0, .int .i64 0, .int .i64 0, .int .i64 0, .bool false, .bool false, .int .i64 0, .int .i64 0, .int .i64 0, .int .i64 0, .int .i64 0, .int .i64 0, .int .i64 0] 61)
  have Y : Blk (((w.alloc (.cells #[.slice p xss.length d] 51)).alloc (.cells #[.int .i64 c.xWho, .int .i64 c.xAt, .int .i64 c.xBy, .bool c.xCry] 52)).alloc (.cells #[.int .i64 0, .int .i64 0, .slice none 0 0, .slice none 0 0, .int .i64 0, .slice none 0 0, .int .i64 0, .int .i64 0, .int .i64 0, .bool false, .bool false, .int .i64 0, .int .i64 0, .int .i64 0, .int .i64 0, .int .i64 0, .int .i64 0, .int .i64 0] 61)) (w.heap.size + 1 + 1) 61 #[.int .i64 0, .int .i64 0, .slice none 0 0, .slice none 0 0, .int .i64 0, .slice none 0 0, .int .i64 0, .int .i64 0, .int .i64 0, .bool false, .bool false, .int .i64 0, .int .i64 0, .int .i64 0, .int .i64 0, .int .i64 0, .int .i64 0, .int .i64 0] := by simpa using Blk.new ((w.alloc (.cells #[.slice p xss.length d] 51)).alloc (.cells #[.int .i64 c.xWho, .int .i64 c.xAt, .int .i64 c.xBy, .bool c.xCry] 52)) 61 #[.int .i64 0, .int .i64 0, .slice none 0 0, .slice none 0 0, .int .i64 0, .slice none 0 0, .int .i64 0, .int .i64 0, .int .i64 0, .bool false, .bool false, .int .i64 0, .int .i64 0, .int .i64 0, .int .i64 0, .int .i64 0, .int .i64 0, .int .i64 0]
  have sz : (((w.alloc (.cells #[.slice p xss.length d] 51)).alloc (.cells #[.int .i64 c.xWho, .int .i64 c.xAt, .int .i64 c.xBy, .bool c.xCry] 52)).alloc (.cells #[.int .i64 0, .int .i64 0, .slice none 0 0, .slice none 0 0, .int .i64 0, .slice none 0 0, .int .i64 0, .int .i64 0, .int .i64 0, .bool false, .bool false, .int .i64 0, .int .i64 0, .int .i64 0, .int .i64 0, .int .i64 0, .int .i64 0, .int .i64 0] 61)).heap.size = w.heap.size + 3 := by simp
  have KT := spec_l2Fault _ _ xss _ X (hv.below B)
  have KC := spec_l4Cheat _ 0 c _ (by rw [C.at.1]; rfl) (by rw [C.at.1]; rfl) (by rw [C.at.1]; rfl)
  by_cases k0 : tapeC xss = 0
  · rw [k0] at KT
    by_cases k1 : cheatC c = 0
    · rw [k1] at KC
      rw [show newR xss c = ⟨0, 0, freshN xss c⟩ by unfold newR; rw [if_pos k0, if_pos k1]]
      clear k0 k1
      go_enter Try.func28, Try.ntmps28
      go_wp2_with fail
      refine KT.mono ?_
      rintro e w' ⟨rfl, rfl⟩
      go_wp2_with fail
      refine KC.mono ?_
      rintro e w' ⟨rfl, rfl⟩
      have xa := X.at.1
      have ca := C.at.1
      go_wp2_with fail
      clear xa ca
      refine (spec_l4New _ xss c _ ⟨p, d, rfl, hv.below B⟩ hl).mono ?_
      rintro e w1 ⟨u, b0, b1, b2, rfl, N1, f0, f1, f2, hb1⟩
      obtain ⟨q0, d0, q1, d1, q2, d2, rfl, T1, U1, H1, j01, j02, j12⟩ := N1
      simp only [freshN, List.length_cons, List.length_nil] at T1 U1 H1 ⊢
      rw [sz] at f0 f1 f2
      replace Y := Y.keep hb1
      replace B : Below w.heap.size w w1 := B.trans (hb1.mono B.size)
      clear hb1 X C sz KT KC
      go_wp2_with (refine wpList_store_blk rfl 61 _ _ rfl (w.heap.size + 1 + 1) (#[.int .i64 0, .int .i64 0, .slice q0 xss.length d0, .slice q1 4 d1, .int .i64 0, .slice q2 4 d2, .int .i64 c.xWho, .int .i64 c.xAt, .int .i64 c.xBy, .bool c.xCry, .bool false, .int .i64 0, .int .i64 0, .int .i64 0, .int .i64 0, .int .i64 0, .int .i64 0, .int .i64 0]) rfl rfl Y rfl (by kernel_rfl) (by kernel_rfl) ?_; intro w9 Y9 O9)
      have B9 : Below w.heap.size w w9 := B.trans (O9.toBelow B.size (by simp; omega))
      have no9 : ∀ y, w.heap.size + 3 ≤ y → y ∉ [w.heap.size + 1 + 1] := fun y hy hm => by simp at hm; omega
      exact bodyPost_ret (v := .agg #[.int .i64 0, .int .i64 0, .slice q0 xss.length d0, .slice q1 4 d1, .int .i64 0, .slice q2 4 d2, .int .i64 c.xWho, .int .i64 c.xAt, .int .i64 c.xBy, .bool c.xCry, .bool false, .int .i64 0, .int .i64 0, .int .i64 0, .int .i64 0, .int .i64 0, .int .i64 0, .int .i64 0]) (results_blk Try.results28 rfl Y9 Try.underlying61 rfl (by kernel_rfl)) rfl ⟨_, b0, b1, b2, rfl, ⟨q0, d0, q1, d1, q2, d2, rfl, T1.off O9 (fun y hy => no9 y (f0 y hy)), U1.off O9 (fun y hy => no9 y (f1 y hy)), H1.off O9 (fun y hy => no9 y (f2 y hy)), j01, j02, j12⟩, fun y hy => by have := f0 y hy; omega, fun y hy => by have := f1 y hy; omega, fun y hy => by have := f2 y hy; omega, B9⟩
    · rw [show newR xss c = badN (cheatC c) by unfold newR; rw [if_pos k0, if_neg k1]]
      have hne : (cheatC c != 0) = true := by simpa using k1
      clear k0 k1
      generalize cheatC c = r at *
      go_enter Try.func28, Try.ntmps28
      go_wp2_with fail
      refine KT.mono ?_
      rintro e w' ⟨rfl, rfl⟩
      go_wp2_with fail
      refine KC.mono ?_
      rintro e w' ⟨rfl, rfl⟩
      go_wp2_with fail
      refine (spec_l4Bad _ _).mono ?_
      rintro e w8 ⟨rfl, hb8⟩
      replace Y := Y.keep hb8
      replace B : Below w.heap.size w w8 := B.trans (hb8.mono B.size)
      go_wp2_with (refine wpList_store_blk rfl 61 _ _ rfl (w.heap.size + 1 + 1) (#[.int .i64 r, .int .i64 0, .slice none 0 0, .slice none 0 0, .int .i64 0, .slice none 0 0, .int .i64 0, .int .i64 0, .int .i64 0, .bool false, .bool false, .int .i64 0, .int .i64 0, .int .i64 0, .int .i64 0, .int .i64 0, .int .i64 0, .int .i64 0]) rfl rfl Y rfl (by kernel_rfl) (by kernel_rfl) ?_; intro w9 Y9 O9)
      have B9 : Below w.heap.size w w9 := B.trans (O9.toBelow B.size (by simp; omega))
      exact bodyPost_ret (v := .agg #[.int .i64 r, .int .i64 0, .slice none 0 0, .slice none 0 0, .int .i64 0, .slice none 0 0, .int .i64 0, .int .i64 0, .int .i64 0, .bool false, .bool false, .int .i64 0, .int .i64 0, .int .i64 0, .int .i64 0, .int .i64 0, .int .i64 0, .int .i64 0]) (results_blk Try.results28 rfl Y9 Try.underlying61 rfl (by kernel_rfl)) rfl (OutNetR.bad _ B9)
  · rw [show newR xss c = badN (tapeC xss) from if_neg k0]
    have hne : (tapeC xss != 0) = true := by simpa using k0
    clear k0 KC
    generalize tapeC xss = r at *
    go_enter Try.func28, Try.ntmps28
    go_wp2_with fail
    refine KT.mono ?_
    rintro e w' ⟨rfl, rfl⟩
    go_wp2_with fail
    refine (spec_l4Bad _ _).mono ?_
    rintro e w8 ⟨rfl, hb8⟩
    replace Y := Y.keep hb8
    replace B : Below w.heap.size w w8 := B.trans (hb8.mono B.size)
    go_wp2_with (refine wpList_store_blk rfl 61 _ _ rfl (w.heap.size + 1 + 1) (#[.int .i64 r, .int .i64 0, .slice none 0 0, .slice none 0 0, .int .i64 0, .slice none 0 0, .int .i64 0, .int .i64 0, .int .i64 0, .bool false, .bool false, .int .i64 0, .int .i64 0, .int .i64 0, .int .i64 0, .int .i64 0, .int .i64 0, .int .i64 0]) rfl rfl Y rfl (by kernel_rfl) (by kernel_rfl) ?_; intro w9 Y9 O9)
    have B9 : Below w.heap.size w w9 := B.trans (O9.toBelow B.size (by simp; omega))
    exact bodyPost_ret (v := .agg #[.int .i64 r, .int .i64 0, .slice none 0 0, .slice none 0 0, .int .i64 0, .slice none 0 0, .int .i64 0, .int .i64 0, .int .i64 0, .bool false, .bool false, .int .i64 0, .int .i64 0, .int .i64 0, .int .i64 0, .int .i64 0, .int .i64 0, .int .i64 0]) (results_blk Try.results28 rfl Y9 Try.underlying61 rfl (by kernel_rfl)) rfl (OutNetR.bad _ B9)
theorem OwNetResult.ofNet {W : World} {xss : List (List Int)} {c : MCheat} {q0 : Option Addr} {d0 g1 g2 : Nat} {b0 b1 b2 : List Nat} (h : OwNet W (.agg #[.slice q0 xss.length d0, .slice (some ⟨g1, 0, none⟩) 4 4, .int .i64 0, .slice (some ⟨g2, 0, none⟩) 4 4, .int .i64 c.xWho, .int .i64 c.xAt, .int .i64 c.xBy, .bool c.xCry, .bool false, .int .i64 0, .int .i64 0, .int .i64 0, .int .i64 0, .int .i64 0, .int .i64 0, .int .i64 0]) (freshN xss c) b0 b1 b2) : OwNetResult W (.agg #[.int .i64 0, .int .i64 0, .slice q0 xss.length d0, .slice (some ⟨g1, 0, none⟩) 4 4, .int .i64 0, .slice (some ⟨g2, 0, none⟩) 4 4, .int .i64 c.xWho, .int .i64 c.xAt, .int .i64 c.xBy, .bool c.xCry, .bool false, .int .i64 0, .int .i64 0, .int .i64 0, .int .i64 0, .int .i64 0, .int .i64 0, .int .i64 0]) ⟨0, 0, freshN xss c⟩ b0 b1 b2 := by
  obtain ⟨p0, c0, p1, c1, p2, c2, e, r⟩ := h
  simp only [freshN, List.length_cons, List.length_nil, Value.agg.injEq, Array.mk.injEq, List.cons.injEq, Value.slice.injEq, and_true, true_and] at e
  obtain ⟨⟨rfl, rfl⟩, ⟨rfl, rfl⟩, ⟨rfl, rfl⟩⟩ := e
  exact ⟨_, _, _, _, _, _, rfl, r⟩
set_option maxHeartbeats 16000000 in
set_option maxRecDepth 100000 in
theorem impl_NewNet (v : Value) (xss : List (List Int)) (u : Value) (c : MCheat) (w : World) (hv : RdTape w v xss) (hu : RdCheat w u c) (hl : tot xss ≤ 1048576) :
    Calls Try.prog 31 #[v, u] w fun e w' => OutNetR w w' (newR xss c) e := by
  obtain ⟨p, d, rfl, hv⟩ := hv
  unfold RdCheat at hu
  subst hu
  have mk1 : ∀ w, (Instr.makeSlice 42 (.int .i64 4) (.int .i64 4)).run Try.prog w = .ok (.slice (some ⟨w.heap.size, 0, none⟩) 4 4) (w.alloc (.cells #[.int .i64 0, .int .i64 0, .int .i64 0, .int .i64 0] 2)) := fun _ => by kernel_rfl
  have mk2 : ∀ w, (Instr.makeSlice 22 (.int .i64 4) (.int .i64 4)).run Try.prog w = .ok (.slice (some ⟨w.heap.size, 0, none⟩) 4 4) (w.alloc (.cells #[.slice none 0 0, .slice none 0 0, .slice none 0 0, .slice none 0 0] 42)) := fun _ => by kernel_rfl
  have B : Below w.heap.size w (((w.alloc (.cells #[.slice p xss.length d] 51)).alloc (.cells #[.int .i64 c.xWho, .int .i64 c.xAt, .int .i64 c.xBy, .bool c.xCry] 52)).alloc (.cells #[.int .i64 0, .int .i64 0, .slice none 0 0, .slice none 0 0, .int .i64 0, .slice none 0 0, .int .i64 0, .int .i64 0, .int .i64 0, .bool false, .bool false, .int .i64 0, .int .i64 0, .int .i64 0, .int .i64 0, .int .i64 0, .int .i64 0, .int .i64 0] 61)) := (by repeat (first | exact Below.refl _ _ | refine Below.drew ?_ | refine below_drewN ?_ _ | refine Below.setCell ?_ (by first | omega | (simp; done) | (simp; omega)) _ | refine Below.alloc ?_ (by first | omega | (simp; done) | (simp; omega)) _))
  have X : Blk (((w.alloc (.cells #[.slice p xss.length d] 51)).alloc (.cells #[.int .i64 c.xWho, .int .i64 c.xAt, .int .i64 c.xBy, .bool c.xCry] 52)).alloc (.cells #[.int .i64 0, .int .i64 0, .slice none 0 0, .slice none 0 0, .int .i64 0, .slice none 0 0, .int .i64 0, .int .i64 0, .int .i64 0, .bool false, .bool false, .int .i64 0, .int .i64 0, .int .i64 0, .int .i64 0, .int .i64 0, .int .i64 0, .int .i64 0] 61)) w.heap.size 51 #[.slice p xss.length d] := ((Blk.new w _ _).alloc _).alloc _
  have C : Blk (((w.alloc (.cells #[.slice p xss.length d] 51)).alloc (.cells #[.int .i64 c.xWho, .int .i64 c.xAt, .int .i64 c.xBy, .bool c.xCry] 52)).alloc (.cells #[.int .i64 0, .int .i64 0, .slice none 0 0, .slice none 0 0, .int .i64 0, .slice none 0 0, .int .i64 0, .int .i64 0, .int .i64 0, .bool false, .bool false, .int .i64 0, .int .i64 0, .int .i64 0, .int .i64 0, .int .i64 0, .int .i64 0, .int .i64 0] 61)) (w.heap.size + 1) 52 #[.int .i64 c.xWho, .int .i64 c.xAt, .int .i64 c.xBy, .bool c.xCry] := by simpa using (Blk.new (w.alloc (.cells #[.slice p xss.length d] 51)) 52 #[.int .i64 c.xWho, .int .i64 c.xAt, .int .i64 c.xBy, .bool c.xCry]).alloc (.cells #[.int .i64 0, .int .i64 0, .slice none 0 0, .slice none 0 0, .int .i64 0, .slice none 0 0, .int .i64 0, .int .i64 0, .int .i64 0, .bool false, .bool false, .int .i64 0, .int .i64 0, .int .i64 0, .int .i64 0, .int .i64 0, .int .i64 0, .int .i64 0] 61)
  have Y : Blk (((w.alloc (.cells #[.slice p xss.length d] 51)).alloc (.cells #[.int .i64 c.xWho, .int .i64 c.xAt, .int .i64 c.xBy, .bool c.xCry] 52)).alloc (.cells #[.int .i64 0, .int .i64 0, .slice none 0 0, .slice none 0 0, .int .i64 0, .slice none 0 0, .int .i64 0, .int .i64 0, .int .i64 0, .bool false, .bool false, .int .i64 0, .int .i64 0, .int .i64 0, .int .i64 0, .int .i64 0, .int .i64 0, .int .i64 0] 61)) (w.heap.size + 1 + 1) 61 #[.int .i64 0, .int .i64 0, .slice none 0 0, .slice none 0 0, .int .i64 0, .slice none 0 0, .int .i64 0, .int .i64 0, .int .i64 0, .bool false, .bool false, .int .i64 0, .int .i64 0, .int .i64 0, .int .i64 0, .int .i64 0, .int .i64 0, .int .i64 0] := by simpa using Blk.new ((w.alloc (.cells #[.slice p xss.length d] 51)).alloc (.cells #[.int .i64 c.xWho, .int .i64 c.xAt, .int .i64 c.xBy, .bool c.xCry] 52)) 61 #[.int .i64 0, .int .i64 0, .slice none 0 0, .slice none 0 0, .int .i64 0, .slice none 0 0, .int .i64 0, .int .i64 0, .int .i64 0, .bool false, .bool false, .int .i64 0, .int .i64 0, .int .i64 0, .int .i64 0, .int .i64 0, .int .i64 0, .int .i64 0]
  have sz : (((w.alloc (.cells #[.slice p xss.length d] 51)).alloc (.cells #[.int .i64 c.xWho, .int .i64 c.xAt, .int .i64 c.xBy, .bool c.xCry] 52)).alloc (.cells #[.int .i64 0, .int .i64 0, .slice none 0 0, .slice none 0 0, .int .i64 0, .slice none 0 0, .int .i64 0, .int .i64 0, .int .i64 0, .bool false, .bool false, .int .i64 0, .int .i64 0, .int .i64 0, .int .i64 0, .int .i64 0, .int .i64 0, .int .i64 0] 61)).heap.size = w.heap.size + 3 := by simp
  have KT := fun W h => impl_TapeFault (.slice p xss.length d) xss W h
  have KC := fun W => impl_CheatFault (.agg #[.int .i64 c.xWho, .int .i64 c.xAt, .int .i64 c.xBy, .bool c.xCry]) c W rfl
  by_cases k0 : tapeC xss = 0
  · rw [k0] at KT
    have h4 := tapeC_four k0
    have hrow : ∀ k, (xss.getD k []).length ≤ 16777216 := fun k => by have := (rowC_zero (tapeC_row k0 k)).1; omega
    by_cases k1 : cheatC c = 0
    · rw [k1] at KC
      rw [show newR xss c = ⟨0, 0, freshN xss c⟩ by unfold newR; rw [if_pos k0, if_pos k1]]
      have hlen : xss.length ≤ 16777216 := by omega
      clear k0 k1 h4
      go_enter Try.func31, Try.ntmps31
      go_wp2_with fail
      refine (KT _ (hv.below B)).mono ?_
      rintro e w3 ⟨rfl, hb3⟩
      have s3 := hb3.size
      rw [sz] at s3
      replace X := X.keep hb3
      replace C := C.keep hb3
      replace Y := Y.keep hb3
      replace B : Below w.heap.size w w3 := B.trans (hb3.mono B.size)
      clear hb3
      have ca := C.at.1
      go_wp2_with fail
      clear ca
      refine (KC _).mono ?_
      rintro e w4 ⟨rfl, hb4⟩
      have s4 := Nat.le_trans s3 hb4.size
      replace X := X.keep hb4
      replace C := C.keep hb4
      replace Y := Y.keep hb4
      replace B : Below w.heap.size w w4 := B.trans (hb4.mono B.size)
      clear hb4
      go_wp2_with fail
      refine wp_region_held (S := fun V => (∀ o, V.cell? ⟨w.heap.size, o, none⟩ = (#[.slice p xss.length d] : Array Value)[o]?) ∧ (∀ o, V.cell? ⟨w.heap.size + 1, o, none⟩ = (#[.int .i64 c.xWho, .int .i64 c.xAt, .int .i64 c.xBy, .bool c.xCry] : Array Value)[o]?)) (by kernel_rfl) ?_
      try (change wpAnyH _ _ _ _ _ _ _ _ (World.drew _))
      replace X := X.drew
      replace C := C.drew
      replace Y := Y.drew
      replace B := B.drew
      have Sz : w.heap.size + 3 ≤ w4.drew.heap.size := s4
      have hS : (∀ o, w4.drew.cell? ⟨w.heap.size, o, none⟩ = (#[.slice p xss.length d] : Array Value)[o]?) ∧ (∀ o, w4.drew.cell? ⟨w.heap.size + 1, o, none⟩ = (#[.int .i64 c.xWho, .int .i64 c.xAt, .int .i64 c.xBy, .bool c.xCry] : Array Value)[o]?) := ⟨X.at.1, C.at.1⟩
      refine wpAnyH_take (i := 0) (v := ?vn3) rfl (by kernel_rfl) (by kernel_rfl) (by kernel_rfl) (fun _ _ _ h => h) (Or.inl ⟨by rfl, ?hn3⟩) hS ?rn3
      case hn3 => intro w' hSw; go_simp; (try with_reducible rfl)
      (try simp only [List.getElem_toArray]); (try simp only [List.getElem_cons_succ]); (try simp only [List.getElem_cons_zero]); (try simp only [Act.put]); (try simp only [List.setIfInBounds_toArray]); (try simp only [List.set_cons_succ]); (try simp only [List.set_cons_zero])
      refine wpAnyH_take (i := 1) (v := ?vn4) rfl (by kernel_rfl) (by kernel_rfl) (by kernel_rfl) (fun _ _ _ h => h) (Or.inl ⟨by rfl, ?hn4⟩) hS ?rn4
      case hn4 => intro w' hSw; go_simp; (try with_reducible rfl)
      (try simp only [List.getElem_toArray]); (try simp only [List.getElem_cons_succ]); (try simp only [List.getElem_cons_zero]); (try simp only [Act.put]); (try simp only [List.setIfInBounds_toArray]); (try simp only [List.set_cons_succ]); (try simp only [List.set_cons_zero])
      refine wpAnyH_take (i := 6) (v := ?vn5) rfl (by kernel_rfl) (by kernel_rfl) (by kernel_rfl) (fun _ _ _ h => h) (Or.inl ⟨by rfl, ?hn5⟩) hS ?rn5
      case hn5 => intro w' hSw; go_simp; (try with_reducible rfl)
      (try simp only [List.getElem_toArray]); (try simp only [List.getElem_cons_succ]); (try simp only [List.getElem_cons_zero]); (try simp only [Act.put]); (try simp only [List.setIfInBounds_toArray]); (try simp only [List.set_cons_succ]); (try simp only [List.set_cons_zero])
      refine wpAnyH_ready (rs := [2, 4, 5]) (by kernel_rfl) (by simp) ?_
      refine AllReadyH.cons (o := _) rfl (fun K hK => ?_) (AllReadyH.cons (o := _) rfl (fun K hK => ?_) (AllReadyH.cons (o := _) rfl (fun K hK => ?_) AllReadyH.nil))
      · rw [if_pos (by rfl)]
        go_simp
        go_at_call 78
        refine (impl_copyOfLists _ xss _ (hv.below B) hlen hrow).mono ?_
        rintro e w2 ⟨u, b0, rfl, T, f0, hb⟩
        obtain ⟨q0, d0, rfl⟩ := T.value
        replace X := X.keep hb
        replace C := C.keep hb
        replace Y := Y.keep hb
        have ltT := T.lt
        have F0 : ∀ y ∈ b0, w.heap.size + 3 ≤ y := fun y hy => Nat.le_trans Sz (f0 y hy)
        replace Sz := Nat.le_trans Sz hb.size
        replace B := B.trans (hb.mono B.size)
        clear hb
        (try dsimp only)
        refine hK.out _ _ ⟨X.at.1, C.at.1⟩ (fun hS => ?_)
        clear hK K
        (try simp only [List.getElem_toArray]); (try simp only [List.getElem_cons_succ]); (try simp only [List.getElem_cons_zero]); (try simp only [Act.put]); (try simp only [List.setIfInBounds_toArray]); (try simp only [List.set_cons_succ]); (try simp only [List.set_cons_zero])
        refine wpAnyH_take (i := 3) (v := .agg #[.slice q0 xss.length d0]) rfl (by kernel_rfl) (by kernel_rfl) (by kernel_rfl) (fun _ _ _ h => h) (Or.inl ⟨by rfl, ?_⟩) hS ?_
        · intro w' hSw
          go_simp
        (try simp only [List.getElem_toArray]); (try simp only [List.getElem_cons_succ]); (try simp only [List.getElem_cons_zero]); (try simp only [Act.put]); (try simp only [List.setIfInBounds_toArray]); (try simp only [List.set_cons_succ]); (try simp only [List.set_cons_zero])
        refine wpAnyH_ready (rs := [4, 5]) (by kernel_rfl) (by simp) ?_
        refine AllReadyH.cons (o := _) rfl (fun K hK => ?_) (AllReadyH.cons (o := _) rfl (fun K hK => ?_) AllReadyH.nil)
        · rw [if_pos (by rfl)]
          go_simp
          replace X := X.alloc (.cells #[.int .i64 0, .int .i64 0, .int .i64 0, .int .i64 0] 2)
          replace C := C.alloc (.cells #[.int .i64 0, .int .i64 0, .int .i64 0, .int .i64 0] 2)
          replace Y := Y.alloc (.cells #[.int .i64 0, .int .i64 0, .int .i64 0, .int .i64 0] 2)
          replace T := T.alloc (.cells #[.int .i64 0, .int .i64 0, .int .i64 0, .int .i64 0] 2)
          have U := Blk.new w2 2 #[.int .i64 0, .int .i64 0, .int .i64 0, .int .i64 0]
          have ltU := U.lt
          have nTU : (w2).heap.size ∉ b0 := fun hm => absurd (ltT _ hm) (by simp)
          have gU : w.heap.size + 3 ≤ (w2).heap.size := Sz
          replace Sz : w.heap.size + 3 ≤ (w2.alloc (.cells #[.int .i64 0, .int .i64 0, .int .i64 0, .int .i64 0] 2)).heap.size := Nat.le_trans Sz (by simp)
          replace B := B.alloc B.size (.cells #[.int .i64 0, .int .i64 0, .int .i64 0, .int .i64 0] 2)
          refine hK.out _ _ ⟨X.at.1, C.at.1⟩ (fun hS => ?_)
          clear hK K
          (try simp only [List.getElem_toArray]); (try simp only [List.getElem_cons_succ]); (try simp only [List.getElem_cons_zero]); (try simp only [Act.put]); (try simp only [List.setIfInBounds_toArray]); (try simp only [List.set_cons_succ]); (try simp only [List.set_cons_zero])
          refine wpAnyH_ready (rs := [5]) (by kernel_rfl) (by simp) ?_
          refine AllReadyH.cons (o := _) rfl (fun K hK => ?_) AllReadyH.nil
          · rw [if_pos (by rfl)]
            go_simp
            replace X := X.alloc (.cells #[.slice none 0 0, .slice none 0 0, .slice none 0 0, .slice none 0 0] 42)
            replace C := C.alloc (.cells #[.slice none 0 0, .slice none 0 0, .slice none 0 0, .slice none 0 0] 42)
            replace Y := Y.alloc (.cells #[.slice none 0 0, .slice none 0 0, .slice none 0 0, .slice none 0 0] 42)
            replace T := T.alloc (.cells #[.slice none 0 0, .slice none 0 0, .slice none 0 0, .slice none 0 0] 42)
            have nUH : _ ≠ _ := Nat.ne_of_lt U.lt
            replace U := U.alloc (.cells #[.slice none 0 0, .slice none 0 0, .slice none 0 0, .slice none 0 0] 42)
            have H := Blk.new (w2.alloc (.cells #[.int .i64 0, .int .i64 0, .int .i64 0, .int .i64 0] 2)) 42 #[.slice none 0 0, .slice none 0 0, .slice none 0 0, .slice none 0 0]
            have ltH := H.lt
            have nTH : ((w2.alloc (.cells #[.int .i64 0, .int .i64 0, .int .i64 0, .int .i64 0] 2))).heap.size ∉ b0 := fun hm => absurd (ltT _ hm) (by simp)
            have gH : w.heap.size + 3 ≤ ((w2.alloc (.cells #[.int .i64 0, .int .i64 0, .int .i64 0, .int .i64 0] 2))).heap.size := Sz
            replace Sz : w.heap.size + 3 ≤ ((w2.alloc (.cells #[.int .i64 0, .int .i64 0, .int .i64 0, .int .i64 0] 2)).alloc (.cells #[.slice none 0 0, .slice none 0 0, .slice none 0 0, .slice none 0 0] 42)).heap.size := Nat.le_trans Sz (by simp)
            replace B := B.alloc B.size (.cells #[.slice none 0 0, .slice none 0 0, .slice none 0 0, .slice none 0 0] 42)
            refine hK.out _ _ ⟨X.at.1, C.at.1⟩ (fun hS => ?_)
            clear hK K
            (try simp only [List.getElem_toArray]); (try simp only [List.getElem_cons_succ]); (try simp only [List.getElem_cons_zero]); (try simp only [Act.put]); (try simp only [List.setIfInBounds_toArray]); (try simp only [List.set_cons_succ]); (try simp only [List.set_cons_zero])
            refine wpAnyH_take (i := 7) (v := .agg #[.slice q0 xss.length d0, .slice (some ⟨w2.heap.size, 0, none⟩) 4 4, .int .i64 0, .slice (some ⟨w2.heap.size + 1, 0, none⟩) 4 4, .int .i64 c.xWho, .int .i64 c.xAt, .int .i64 c.xBy, .bool c.xCry, .bool false, .int .i64 0, .int .i64 0, .int .i64 0, .int .i64 0, .int .i64 0, .int .i64 0, .int .i64 0]) rfl (by kernel_rfl) (by kernel_rfl) (by kernel_rfl) (fun _ _ _ h => h) (Or.inl ⟨by rfl, ?_⟩) hS ?_
            · intro w' hSw
              go_simp
            (try simp only [List.getElem_toArray]); (try simp only [List.getElem_cons_succ]); (try simp only [List.getElem_cons_zero]); (try simp only [Act.put]); (try simp only [List.setIfInBounds_toArray]); (try simp only [List.set_cons_succ]); (try simp only [List.set_cons_zero])
            refine wpAnyH_take (i := 8) (v := .agg #[.int .i64 0, .int .i64 0, .slice q0 xss.length d0, .slice (some ⟨w2.heap.size, 0, none⟩) 4 4, .int .i64 0, .slice (some ⟨w2.heap.size + 1, 0, none⟩) 4 4, .int .i64 c.xWho, .int .i64 c.xAt, .int .i64 c.xBy, .bool c.xCry, .bool false, .int .i64 0, .int .i64 0, .int .i64 0, .int .i64 0, .int .i64 0, .int .i64 0, .int .i64 0]) rfl (by kernel_rfl) (by kernel_rfl) (by kernel_rfl) (fun _ _ _ h => h) (Or.inl ⟨by rfl, ?_⟩) hS ?_
            · intro w' hSw
              go_simp
            (try simp only [List.getElem_toArray]); (try simp only [List.getElem_cons_succ]); (try simp only [List.getElem_cons_zero]); (try simp only [Act.put]); (try simp only [List.setIfInBounds_toArray]); (try simp only [List.set_cons_succ]); (try simp only [List.set_cons_zero])
            refine wpAnyH_ready (rs := [9]) (by kernel_rfl) (by simp) ?_
            refine AllReadyH.cons (o := _) rfl (fun K hK => ?_) AllReadyH.nil
            refine step_store_blk rfl 61 _ _ rfl (w.heap.size + 1 + 1) _ rfl rfl Y rfl (by kernel_rfl) (by kernel_rfl) ?_
            intro w9 Y9 O9
            refine hK.out _ _ ⟨(X.off O9 (ne_one (by omega))).at.1, (C.off O9 (ne_one (by omega))).at.1⟩ (fun hS => ?_)
            clear hK K
            (try simp only [List.getElem_toArray]); (try simp only [List.getElem_cons_succ]); (try simp only [List.getElem_cons_zero]); (try simp only [Act.put]); (try simp only [List.setIfInBounds_toArray]); (try simp only [List.set_cons_succ]); (try simp only [List.set_cons_zero])
            refine wpAnyH_done (by kernel_rfl) ?_ _
            have no9 : ∀ y, w.heap.size + 3 ≤ y → y ∉ [w.heap.size + 1 + 1] := fun y hy hm => by simp at hm; omega
            have N9 := OwNet.fresh (c := c) (T.off O9 (fun y hy => no9 y (F0 y hy))) (U.off O9 (no9 _ gU)) (H.off O9 (no9 _ gH)) nTU nTH nUH
            have B9 : Below w.heap.size w w9 := B.trans (O9.toBelow B.size (by simp; omega))
            go_wp2
            exact bodyPost_ret (v := .agg _) (results_blk Try.results31 rfl Y9 Try.underlying61 rfl (by kernel_rfl)) rfl ⟨_, b0, [w2.heap.size], [(w2.alloc (.cells #[.int .i64 0, .int .i64 0, .int .i64 0, .int .i64 0] 2)).heap.size], rfl, OwNetResult.ofNet (by simpa using N9), fun y hy => by have := F0 y hy; omega, fun y hy => by rw [List.mem_singleton] at hy; rw [hy]; omega, fun y hy => by rw [List.mem_singleton] at hy; rw [hy]; omega, B9⟩
        · rw [if_pos (by rfl)]
          go_simp
          replace X := X.alloc (.cells #[.slice none 0 0, .slice none 0 0, .slice none 0 0, .slice none 0 0] 42)
          replace C := C.alloc (.cells #[.slice none 0 0, .slice none 0 0, .slice none 0 0, .slice none 0 0] 42)
          replace Y := Y.alloc (.cells #[.slice none 0 0, .slice none 0 0, .slice none 0 0, .slice none 0 0] 42)
          replace T := T.alloc (.cells #[.slice none 0 0, .slice none 0 0, .slice none 0 0, .slice none 0 0] 42)
          have H := Blk.new w2 42 #[.slice none 0 0, .slice none 0 0, .slice none 0 0, .slice none 0 0]
          have ltH := H.lt
          have nTH : (w2).heap.size ∉ b0 := fun hm => absurd (ltT _ hm) (by simp)
          have gH : w.heap.size + 3 ≤ (w2).heap.size := Sz
          replace Sz : w.heap.size + 3 ≤ (w2.alloc (.cells #[.slice none 0 0, .slice none 0 0, .slice none 0 0, .slice none 0 0] 42)).heap.size := Nat.le_trans Sz (by simp)
          replace B := B.alloc B.size (.cells #[.slice none 0 0, .slice none 0 0, .slice none 0 0, .slice none 0 0] 42)
          refine hK.out _ _ ⟨X.at.1, C.at.1⟩ (fun hS => ?_)
          clear hK K
          (try simp only [List.getElem_toArray]); (try simp only [List.getElem_cons_succ]); (try simp only [List.getElem_cons_zero]); (try simp only [Act.put]); (try simp only [List.setIfInBounds_toArray]); (try simp only [List.set_cons_succ]); (try simp only [List.set_cons_zero])
          refine wpAnyH_ready (rs := [4]) (by kernel_rfl) (by simp) ?_
          refine AllReadyH.cons (o := _) rfl (fun K hK => ?_) AllReadyH.nil
          · rw [if_pos (by rfl)]
            go_simp
            replace X := X.alloc (.cells #[.int .i64 0, .int .i64 0, .int .i64 0, .int .i64 0] 2)
            replace C := C.alloc (.cells #[.int .i64 0, .int .i64 0, .int .i64 0, .int .i64 0] 2)
            replace Y := Y.alloc (.cells #[.int .i64 0, .int .i64 0, .int .i64 0, .int .i64 0] 2)
            replace T := T.alloc (.cells #[.int .i64 0, .int .i64 0, .int .i64 0, .int .i64 0] 2)
            have nUH : _ ≠ _ := (Nat.ne_of_lt H.lt).symm
            replace H := H.alloc (.cells #[.int .i64 0, .int .i64 0, .int .i64 0, .int .i64 0] 2)
            have U := Blk.new (w2.alloc (.cells #[.slice none 0 0, .slice none 0 0, .slice none 0 0, .slice none 0 0] 42)) 2 #[.int .i64 0, .int .i64 0, .int .i64 0, .int .i64 0]
            have ltU := U.lt
            have nTU : ((w2.alloc (.cells #[.slice none 0 0, .slice none 0 0, .slice none 0 0, .slice none 0 0] 42))).heap.size ∉ b0 := fun hm => absurd (ltT _ hm) (by simp)
            have gU : w.heap.size + 3 ≤ ((w2.alloc (.cells #[.slice none 0 0, .slice none 0 0, .slice none 0 0, .slice none 0 0] 42))).heap.size := Sz
            replace Sz : w.heap.size + 3 ≤ ((w2.alloc (.cells #[.slice none 0 0, .slice none 0 0, .slice none 0 0, .slice none 0 0] 42)).alloc (.cells #[.int .i64 0, .int .i64 0, .int .i64 0, .int .i64 0] 2)).heap.size := Nat.le_trans Sz (by simp)
            replace B := B.alloc B.size (.cells #[.int .i64 0, .int .i64 0, .int .i64 0, .int .i64 0] 2)
            refine hK.out _ _ ⟨X.at.1, C.at.1⟩ (fun hS => ?_)
            clear hK K
            (try simp only [List.getElem_toArray]); (try simp only [List.getElem_cons_succ]); (try simp only [List.getElem_cons_zero]); (try simp only [Act.put]); (try simp only [List.setIfInBounds_toArray]); (try simp only [List.set_cons_succ]); (try simp only [List.set_cons_zero])
            refine wpAnyH_take (i := 7) (v := .agg #[.slice q0 xss.length d0, .slice (some ⟨w2.heap.size + 1, 0, none⟩) 4 4, .int .i64 0, .slice (some ⟨w2.heap.size, 0, none⟩) 4 4, .int .i64 c.xWho, .int .i64 c.xAt, .int .i64 c.xBy, .bool c.xCry, .bool false, .int .i64 0, .int .i64 0, .int .i64 0, .int .i64 0, .int .i64 0, .int .i64 0, .int .i64 0]) rfl (by kernel_rfl) (by kernel_rfl) (by kernel_rfl) (fun _ _ _ h => h) (Or.inl ⟨by rfl, ?_⟩) hS ?_
            · intro w' hSw
              go_simp
            (try simp only [List.getElem_toArray]); (try simp only [List.getElem_cons_succ]); (try simp only [List.getElem_cons_zero]); (try simp only [Act.put]); (try simp only [List.setIfInBounds_toArray]); (try simp only [List.set_cons_succ]); (try simp only [List.set_cons_zero])
            refine wpAnyH_take (i := 8) (v := .agg #[.int .i64 0, .int .i64 0, .slice q0 xss.length d0, .slice (some ⟨w2.heap.size + 1, 0, none⟩) 4 4, .int .i64 0, .slice (some ⟨w2.heap.size, 0, none⟩) 4 4, .int .i64 c.xWho, .int .i64 c.xAt, .int .i64 c.xBy, .bool c.xCry, .bool false, .int .i64 0, .int .i64 0, .int .i64 0, .int .i64 0, .int .i64 0, .int .i64 0, .int .i64 0]) rfl (by kernel_rfl) (by kernel_rfl) (by kernel_rfl) (fun _ _ _ h => h) (Or.inl ⟨by rfl, ?_⟩) hS ?_
            · intro w' hSw
              go_simp
            (try simp only [List.getElem_toArray]); (try simp only [List.getElem_cons_succ]); (try simp only [List.getElem_cons_zero]); (try simp only [Act.put]); (try simp only [List.setIfInBounds_toArray]); (try simp only [List.set_cons_succ]); (try simp only [List.set_cons_zero])
            refine wpAnyH_ready (rs := [9]) (by kernel_rfl) (by simp) ?_
            refine AllReadyH.cons (o := _) rfl (fun K hK => ?_) AllReadyH.nil
            refine step_store_blk rfl 61 _ _ rfl (w.heap.size + 1 + 1) _ rfl rfl Y rfl (by kernel_rfl) (by kernel_rfl) ?_
            intro w9 Y9 O9
            refine hK.out _ _ ⟨(X.off O9 (ne_one (by omega))).at.1, (C.off O9 (ne_one (by omega))).at.1⟩ (fun hS => ?_)
            clear hK K
            (try simp only [List.getElem_toArray]); (try simp only [List.getElem_cons_succ]); (try simp only [List.getElem_cons_zero]); (try simp only [Act.put]); (try simp only [List.setIfInBounds_toArray]); (try simp only [List.set_cons_succ]); (try simp only [List.set_cons_zero])
            refine wpAnyH_done (by kernel_rfl) ?_ _
            have no9 : ∀ y, w.heap.size + 3 ≤ y → y ∉ [w.heap.size + 1 + 1] := fun y hy hm => by simp at hm; omega
            have N9 := OwNet.fresh (c := c) (T.off O9 (fun y hy => no9 y (F0 y hy))) (U.off O9 (no9 _ gU)) (H.off O9 (no9 _ gH)) nTU nTH nUH
            have B9 : Below w.heap.size w w9 := B.trans (O9.toBelow B.size (by simp; omega))
            go_wp2
            exact bodyPost_ret (v := .agg _) (results_blk Try.results31 rfl Y9 Try.underlying61 rfl (by kernel_rfl)) rfl ⟨_, b0, [(w2.alloc (.cells #[.slice none 0 0, .slice none 0 0, .slice none 0 0, .slice none 0 0] 42)).heap.size], [w2.heap.size], rfl, OwNetResult.ofNet (by simpa using N9), fun y hy => by have := F0 y hy; omega, fun y hy => by rw [List.mem_singleton] at hy; rw [hy]; omega, fun y hy => by rw [List.mem_singleton] at hy; rw [hy]; omega, B9⟩
      · rw [if_pos (by rfl)]
        go_simp
        replace X := X.alloc (.cells #[.int .i64 0, .int .i64 0, .int .i64 0, .int .i64 0] 2)
        replace C := C.alloc (.cells #[.int .i64 0, .int .i64 0, .int .i64 0, .int .i64 0] 2)
        replace Y := Y.alloc (.cells #[.int .i64 0, .int .i64 0, .int .i64 0, .int .i64 0] 2)
        have U := Blk.new w4.drew 2 #[.int .i64 0, .int .i64 0, .int .i64 0, .int .i64 0]
        have ltU := U.lt
        have gU : w.heap.size + 3 ≤ (w4.drew).heap.size := Sz
        replace Sz : w.heap.size + 3 ≤ (w4.drew.alloc (.cells #[.int .i64 0, .int .i64 0, .int .i64 0, .int .i64 0] 2)).heap.size := Nat.le_trans Sz (by simp)
        replace B := B.alloc B.size (.cells #[.int .i64 0, .int .i64 0, .int .i64 0, .int .i64 0] 2)
        refine hK.out _ _ ⟨X.at.1, C.at.1⟩ (fun hS => ?_)
        clear hK K
        (try simp only [List.getElem_toArray]); (try simp only [List.getElem_cons_succ]); (try simp only [List.getElem_cons_zero]); (try simp only [Act.put]); (try simp only [List.setIfInBounds_toArray]); (try simp only [List.set_cons_succ]); (try simp only [List.set_cons_zero])
        refine wpAnyH_ready (rs := [2, 5]) (by kernel_rfl) (by simp) ?_
        refine AllReadyH.cons (o := _) rfl (fun K hK => ?_) (AllReadyH.cons (o := _) rfl (fun K hK => ?_) AllReadyH.nil)
        · rw [if_pos (by rfl)]
          go_simp
          go_at_call 78
          refine (impl_copyOfLists _ xss _ (hv.below B) hlen hrow).mono ?_
          rintro e w2 ⟨u, b0, rfl, T, f0, hb⟩
          obtain ⟨q0, d0, rfl⟩ := T.value
          replace X := X.keep hb
          replace C := C.keep hb
          replace Y := Y.keep hb
          have nTU : _ ∉ b0 := fun hm => Nat.not_lt.2 (f0 _ hm) U.lt
          replace U := U.keep hb
          have ltT := T.lt
          have F0 : ∀ y ∈ b0, w.heap.size + 3 ≤ y := fun y hy => Nat.le_trans Sz (f0 y hy)
          replace Sz := Nat.le_trans Sz hb.size
          replace B := B.trans (hb.mono B.size)
          clear hb
          (try dsimp only)
          refine hK.out _ _ ⟨X.at.1, C.at.1⟩ (fun hS => ?_)
          clear hK K
          (try simp only [List.getElem_toArray]); (try simp only [List.getElem_cons_succ]); (try simp only [List.getElem_cons_zero]); (try simp only [Act.put]); (try simp only [List.setIfInBounds_toArray]); (try simp only [List.set_cons_succ]); (try simp only [List.set_cons_zero])
          refine wpAnyH_take (i := 3) (v := .agg #[.slice q0 xss.length d0]) rfl (by kernel_rfl) (by kernel_rfl) (by kernel_rfl) (fun _ _ _ h => h) (Or.inl ⟨by rfl, ?_⟩) hS ?_
          · intro w' hSw
            go_simp
          (try simp only [List.getElem_toArray]); (try simp only [List.getElem_cons_succ]); (try simp only [List.getElem_cons_zero]); (try simp only [Act.put]); (try simp only [List.setIfInBounds_toArray]); (try simp only [List.set_cons_succ]); (try simp only [List.set_cons_zero])
          refine wpAnyH_ready (rs := [5]) (by kernel_rfl) (by simp) ?_
          refine AllReadyH.cons (o := _) rfl (fun K hK => ?_) AllReadyH.nil
          · rw [if_pos (by rfl)]
            go_simp
            replace X := X.alloc (.cells #[.slice none 0 0, .slice none 0 0, .slice none 0 0, .slice none 0 0] 42)
            replace C := C.alloc (.cells #[.slice none 0 0, .slice none 0 0, .slice none 0 0, .slice none 0 0] 42)
            replace Y := Y.alloc (.cells #[.slice none 0 0, .slice none 0 0, .slice none 0 0, .slice none 0 0] 42)
            have nUH : _ ≠ _ := Nat.ne_of_lt U.lt
            replace U := U.alloc (.cells #[.slice none 0 0, .slice none 0 0, .slice none 0 0, .slice none 0 0] 42)
            replace T := T.alloc (.cells #[.slice none 0 0, .slice none 0 0, .slice none 0 0, .slice none 0 0] 42)
            have H := Blk.new w2 42 #[.slice none 0 0, .slice none 0 0, .slice none 0 0, .slice none 0 0]
            have ltH := H.lt
            have nTH : (w2).heap.size ∉ b0 := fun hm => absurd (ltT _ hm) (by simp)
            have gH : w.heap.size + 3 ≤ (w2).heap.size := Sz
            replace Sz : w.heap.size + 3 ≤ (w2.alloc (.cells #[.slice none 0 0, .slice none 0 0, .slice none 0 0, .slice none 0 0] 42)).heap.size := Nat.le_trans Sz (by simp)
            replace B := B.alloc B.size (.cells #[.slice none 0 0, .slice none 0 0, .slice none 0 0, .slice none 0 0] 42)
            refine hK.out _ _ ⟨X.at.1, C.at.1⟩ (fun hS => ?_)
            clear hK K
            (try simp only [List.getElem_toArray]); (try simp only [List.getElem_cons_succ]); (try simp only [List.getElem_cons_zero]); (try simp only [Act.put]); (try simp only [List.setIfInBounds_toArray]); (try simp only [List.set_cons_succ]); (try simp only [List.set_cons_zero])
            refine wpAnyH_take (i := 7) (v := .agg #[.slice q0 xss.length d0, .slice (some ⟨w4.heap.size, 0, none⟩) 4 4, .int .i64 0, .slice (some ⟨w2.heap.size, 0, none⟩) 4 4, .int .i64 c.xWho, .int .i64 c.xAt, .int .i64 c.xBy, .bool c.xCry, .bool false, .int .i64 0, .int .i64 0, .int .i64 0, .int .i64 0, .int .i64 0, .int .i64 0, .int .i64 0]) rfl (by kernel_rfl) (by kernel_rfl) (by kernel_rfl) (fun _ _ _ h => h) (Or.inl ⟨by rfl, ?_⟩) hS ?_
            · intro w' hSw
              go_simp
            (try simp only [List.getElem_toArray]); (try simp only [List.getElem_cons_succ]); (try simp only [List.getElem_cons_zero]); (try simp only [Act.put]); (try simp only [List.setIfInBounds_toArray]); (try simp only [List.set_cons_succ]); (try simp only [List.set_cons_zero])
            refine wpAnyH_take (i := 8) (v := .agg #[.int .i64 0, .int .i64 0, .slice q0 xss.length d0, .slice (some ⟨w4.heap.size, 0, none⟩) 4 4, .int .i64 0, .slice (some ⟨w2.heap.size, 0, none⟩) 4 4, .int .i64 c.xWho, .int .i64 c.xAt, .int .i64 c.xBy, .bool c.xCry, .bool false, .int .i64 0, .int .i64 0, .int .i64 0, .int .i64 0, .int .i64 0, .int .i64 0, .int .i64 0]) rfl (by kernel_rfl) (by kernel_rfl) (by kernel_rfl) (fun _ _ _ h => h) (Or.inl ⟨by rfl, ?_⟩) hS ?_
            · intro w' hSw
              go_simp
            (try simp only [List.getElem_toArray]); (try simp only [List.getElem_cons_succ]); (try simp only [List.getElem_cons_zero]); (try simp only [Act.put]); (try simp only [List.setIfInBounds_toArray]); (try simp only [List.set_cons_succ]); (try simp only [List.set_cons_zero])
            refine wpAnyH_ready (rs := [9]) (by kernel_rfl) (by simp) ?_
            refine AllReadyH.cons (o := _) rfl (fun K hK => ?_) AllReadyH.nil
            refine step_store_blk rfl 61 _ _ rfl (w.heap.size + 1 + 1) _ rfl rfl Y rfl (by kernel_rfl) (by kernel_rfl) ?_
            intro w9 Y9 O9
            refine hK.out _ _ ⟨(X.off O9 (ne_one (by omega))).at.1, (C.off O9 (ne_one (by omega))).at.1⟩ (fun hS => ?_)
            clear hK K
            (try simp only [List.getElem_toArray]); (try simp only [List.getElem_cons_succ]); (try simp only [List.getElem_cons_zero]); (try simp only [Act.put]); (try simp only [List.setIfInBounds_toArray]); (try simp only [List.set_cons_succ]); (try simp only [List.set_cons_zero])
            refine wpAnyH_done (by kernel_rfl) ?_ _
            have no9 : ∀ y, w.heap.size + 3 ≤ y → y ∉ [w.heap.size + 1 + 1] := fun y hy hm => by simp at hm; omega
            have N9 := OwNet.fresh (c := c) (T.off O9 (fun y hy => no9 y (F0 y hy))) (U.off O9 (no9 _ gU)) (H.off O9 (no9 _ gH)) nTU nTH nUH
            have B9 : Below w.heap.size w w9 := B.trans (O9.toBelow B.size (by simp; omega))
            go_wp2
            exact bodyPost_ret (v := .agg _) (results_blk Try.results31 rfl Y9 Try.underlying61 rfl (by kernel_rfl)) rfl ⟨_, b0, [w4.drew.heap.size], [w2.heap.size], rfl, OwNetResult.ofNet (by simpa using N9), fun y hy => by have := F0 y hy; omega, fun y hy => by rw [List.mem_singleton] at hy; rw [hy]; omega, fun y hy => by rw [List.mem_singleton] at hy; rw [hy]; omega, B9⟩
        · rw [if_pos (by rfl)]
          go_simp
          replace X := X.alloc (.cells #[.slice none 0 0, .slice none 0 0, .slice none 0 0, .slice none 0 0] 42)
          replace C := C.alloc (.cells #[.slice none 0 0, .slice none 0 0, .slice none 0 0, .slice none 0 0] 42)
          replace Y := Y.alloc (.cells #[.slice none 0 0, .slice none 0 0, .slice none 0 0, .slice none 0 0] 42)
          have nUH : _ ≠ _ := Nat.ne_of_lt U.lt
          replace U := U.alloc (.cells #[.slice none 0 0, .slice none 0 0, .slice none 0 0, .slice none 0 0] 42)
          have H := Blk.new (w4.drew.alloc (.cells #[.int .i64 0, .int .i64 0, .int .i64 0, .int .i64 0] 2)) 42 #[.slice none 0 0, .slice none 0 0, .slice none 0 0, .slice none 0 0]
          have ltH := H.lt
          have gH : w.heap.size + 3 ≤ ((w4.drew.alloc (.cells #[.int .i64 0, .int .i64 0, .int .i64 0, .int .i64 0] 2))).heap.size := Sz
          replace Sz : w.heap.size + 3 ≤ ((w4.drew.alloc (.cells #[.int .i64 0, .int .i64 0, .int .i64 0, .int .i64 0] 2)).alloc (.cells #[.slice none 0 0, .slice none 0 0, .slice none 0 0, .slice none 0 0] 42)).heap.size := Nat.le_trans Sz (by simp)
          replace B := B.alloc B.size (.cells #[.slice none 0 0, .slice none 0 0, .slice none 0 0, .slice none 0 0] 42)
          refine hK.out _ _ ⟨X.at.1, C.at.1⟩ (fun hS => ?_)
          clear hK K
          (try simp only [List.getElem_toArray]); (try simp only [List.getElem_cons_succ]); (try simp only [List.getElem_cons_zero]); (try simp only [Act.put]); (try simp only [List.setIfInBounds_toArray]); (try simp only [List.set_cons_succ]); (try simp only [List.set_cons_zero])
          refine wpAnyH_ready (rs := [2]) (by kernel_rfl) (by simp) ?_
          refine AllReadyH.cons (o := _) rfl (fun K hK => ?_) AllReadyH.nil
          · rw [if_pos (by rfl)]
            go_simp
            go_at_call 78
            refine (impl_copyOfLists _ xss _ (hv.below B) hlen hrow).mono ?_
            rintro e w2 ⟨u, b0, rfl, T, f0, hb⟩
            obtain ⟨q0, d0, rfl⟩ := T.value
            replace X := X.keep hb
            replace C := C.keep hb
            replace Y := Y.keep hb
            have nTU : _ ∉ b0 := fun hm => Nat.not_lt.2 (f0 _ hm) U.lt
            replace U := U.keep hb
            have nTH : _ ∉ b0 := fun hm => Nat.not_lt.2 (f0 _ hm) H.lt
            replace H := H.keep hb
            have ltT := T.lt
            have F0 : ∀ y ∈ b0, w.heap.size + 3 ≤ y := fun y hy => Nat.le_trans Sz (f0 y hy)
            replace Sz := Nat.le_trans Sz hb.size
            replace B := B.trans (hb.mono B.size)
            clear hb
            (try dsimp only)
            refine hK.out _ _ ⟨X.at.1, C.at.1⟩ (fun hS => ?_)
            clear hK K
            (try simp only [List.getElem_toArray]); (try simp only [List.getElem_cons_succ]); (try simp only [List.getElem_cons_zero]); (try simp only [Act.put]); (try simp only [List.setIfInBounds_toArray]); (try simp only [List.set_cons_succ]); (try simp only [List.set_cons_zero])
            refine wpAnyH_take (i := 3) (v := .agg #[.slice q0 xss.length d0]) rfl (by kernel_rfl) (by kernel_rfl) (by kernel_rfl) (fun _ _ _ h => h) (Or.inl ⟨by rfl, ?_⟩) hS ?_
            · intro w' hSw
              go_simp
            (try simp only [List.getElem_toArray]); (try simp only [List.getElem_cons_succ]); (try simp only [List.getElem_cons_zero]); (try simp only [Act.put]); (try simp only [List.setIfInBounds_toArray]); (try simp only [List.set_cons_succ]); (try simp only [List.set_cons_zero])
            refine wpAnyH_take (i := 7) (v := .agg #[.slice q0 xss.length d0, .slice (some ⟨w4.heap.size, 0, none⟩) 4 4, .int .i64 0, .slice (some ⟨w4.heap.size + 1, 0, none⟩) 4 4, .int .i64 c.xWho, .int .i64 c.xAt, .int .i64 c.xBy, .bool c.xCry, .bool false, .int .i64 0, .int .i64 0, .int .i64 0, .int .i64 0, .int .i64 0, .int .i64 0, .int .i64 0]) rfl (by kernel_rfl) (by kernel_rfl) (by kernel_rfl) (fun _ _ _ h => h) (Or.inl ⟨by rfl, ?_⟩) hS ?_
            · intro w' hSw
              go_simp
            (try simp only [List.getElem_toArray]); (try simp only [List.getElem_cons_succ]); (try simp only [List.getElem_cons_zero]); (try simp only [Act.put]); (try simp only [List.setIfInBounds_toArray]); (try simp only [List.set_cons_succ]); (try simp only [List.set_cons_zero])
            refine wpAnyH_take (i := 8) (v := .agg #[.int .i64 0, .int .i64 0, .slice q0 xss.length d0, .slice (some ⟨w4.heap.size, 0, none⟩) 4 4, .int .i64 0, .slice (some ⟨w4.heap.size + 1, 0, none⟩) 4 4, .int .i64 c.xWho, .int .i64 c.xAt, .int .i64 c.xBy, .bool c.xCry, .bool false, .int .i64 0, .int .i64 0, .int .i64 0, .int .i64 0, .int .i64 0, .int .i64 0, .int .i64 0]) rfl (by kernel_rfl) (by kernel_rfl) (by kernel_rfl) (fun _ _ _ h => h) (Or.inl ⟨by rfl, ?_⟩) hS ?_
            · intro w' hSw
              go_simp
            (try simp only [List.getElem_toArray]); (try simp only [List.getElem_cons_succ]); (try simp only [List.getElem_cons_zero]); (try simp only [Act.put]); (try simp only [List.setIfInBounds_toArray]); (try simp only [List.set_cons_succ]); (try simp only [List.set_cons_zero])
            refine wpAnyH_ready (rs := [9]) (by kernel_rfl) (by simp) ?_
            refine AllReadyH.cons (o := _) rfl (fun K hK => ?_) AllReadyH.nil
            refine step_store_blk rfl 61 _ _ rfl (w.heap.size + 1 + 1) _ rfl rfl Y rfl (by kernel_rfl) (by kernel_rfl) ?_
            intro w9 Y9 O9
            refine hK.out _ _ ⟨(X.off O9 (ne_one (by omega))).at.1, (C.off O9 (ne_one (by omega))).at.1⟩ (fun hS => ?_)
            clear hK K
            (try simp only [List.getElem_toArray]); (try simp only [List.getElem_cons_succ]); (try simp only [List.getElem_cons_zero]); (try simp only [Act.put]); (try simp only [List.setIfInBounds_toArray]); (try simp only [List.set_cons_succ]); (try simp only [List.set_cons_zero])
            refine wpAnyH_done (by kernel_rfl) ?_ _
            have no9 : ∀ y, w.heap.size + 3 ≤ y → y ∉ [w.heap.size + 1 + 1] := fun y hy hm => by simp at hm; omega
            have N9 := OwNet.fresh (c := c) (T.off O9 (fun y hy => no9 y (F0 y hy))) (U.off O9 (no9 _ gU)) (H.off O9 (no9 _ gH)) nTU nTH nUH
            have B9 : Below w.heap.size w w9 := B.trans (O9.toBelow B.size (by simp; omega))
            go_wp2
            exact bodyPost_ret (v := .agg _) (results_blk Try.results31 rfl Y9 Try.underlying61 rfl (by kernel_rfl)) rfl ⟨_, b0, [w4.drew.heap.size], [(w4.drew.alloc (.cells #[.int .i64 0, .int .i64 0, .int .i64 0, .int .i64 0] 2)).heap.size], rfl, OwNetResult.ofNet (by simpa using N9), fun y hy => by have := F0 y hy; omega, fun y hy => by rw [List.mem_singleton] at hy; rw [hy]; omega, fun y hy => by rw [List.mem_singleton] at hy; rw [hy]; omega, B9⟩
      · rw [if_pos (by rfl)]
        go_simp
        replace X := X.alloc (.cells #[.slice none 0 0, .slice none 0 0, .slice none 0 0, .slice none 0 0] 42)
        replace C := C.alloc (.cells #[.slice none 0 0, .slice none 0 0, .slice none 0 0, .slice none 0 0] 42)
        replace Y := Y.alloc (.cells #[.slice none 0 0, .slice none 0 0, .slice none 0 0, .slice none 0 0] 42)
        have H := Blk.new w4.drew 42 #[.slice none 0 0, .slice none 0 0, .slice none 0 0, .slice none 0 0]
        have ltH := H.lt
        have gH : w.heap.size + 3 ≤ (w4.drew).heap.size := Sz
        replace Sz : w.heap.size + 3 ≤ (w4.drew.alloc (.cells #[.slice none 0 0, .slice none 0 0, .slice none 0 0, .slice none 0 0] 42)).heap.size := Nat.le_trans Sz (by simp)
        replace B := B.alloc B.size (.cells #[.slice none 0 0, .slice none 0 0, .slice none 0 0, .slice none 0 0] 42)
        refine hK.out _ _ ⟨X.at.1, C.at.1⟩ (fun hS => ?_)
        clear hK K
        (try simp only [List.getElem_toArray]); (try simp only [List.getElem_cons_succ]); (try simp only [List.getElem_cons_zero]); (try simp only [Act.put]); (try simp only [List.setIfInBounds_toArray]); (try simp only [List.set_cons_succ]); (try simp only [List.set_cons_zero])
        refine wpAnyH_ready (rs := [2, 4]) (by kernel_rfl) (by simp) ?_
        refine AllReadyH.cons (o := _) rfl (fun K hK => ?_) (AllReadyH.cons (o := _) rfl (fun K hK => ?_) AllReadyH.nil)
        · rw [if_pos (by rfl)]
          go_simp
          go_at_call 78
          refine (impl_copyOfLists _ xss _ (hv.below B) hlen hrow).mono ?_
          rintro e w2 ⟨u, b0, rfl, T, f0, hb⟩
          obtain ⟨q0, d0, rfl⟩ := T.value
          replace X := X.keep hb
          replace C := C.keep hb
          replace Y := Y.keep hb
          have nTH : _ ∉ b0 := fun hm => Nat.not_lt.2 (f0 _ hm) H.lt
          replace H := H.keep hb
          have ltT := T.lt
          have F0 : ∀ y ∈ b0, w.heap.size + 3 ≤ y := fun y hy => Nat.le_trans Sz (f0 y hy)
          replace Sz := Nat.le_trans Sz hb.size
          replace B := B.trans (hb.mono B.size)
          clear hb
          (try dsimp only)
          refine hK.out _ _ ⟨X.at.1, C.at.1⟩ (fun hS => ?_)
          clear hK K
          (try simp only [List.getElem_toArray]); (try simp only [List.getElem_cons_succ]); (try simp only [List.getElem_cons_zero]); (try simp only [Act.put]); (try simp only [List.setIfInBounds_toArray]); (try simp only [List.set_cons_succ]); (try simp only [List.set_cons_zero])
          refine wpAnyH_take (i := 3) (v := .agg #[.slice q0 xss.length d0]) rfl (by kernel_rfl) (by kernel_rfl) (by kernel_rfl) (fun _ _ _ h => h) (Or.inl ⟨by rfl, ?_⟩) hS ?_
          · intro w' hSw
            go_simp
          (try simp only [List.getElem_toArray]); (try simp only [List.getElem_cons_succ]); (try simp only [List.getElem_cons_zero]); (try simp only [Act.put]); (try simp only [List.setIfInBounds_toArray]); (try simp only [List.set_cons_succ]); (try simp only [List.set_cons_zero])
          refine wpAnyH_ready (rs := [4]) (by kernel_rfl) (by simp) ?_
          refine AllReadyH.cons (o := _) rfl (fun K hK => ?_) AllReadyH.nil
          · rw [if_pos (by rfl)]
            go_simp
            replace X := X.alloc (.cells #[.int .i64 0, .int .i64 0, .int .i64 0, .int .i64 0] 2)
            replace C := C.alloc (.cells #[.int .i64 0, .int .i64 0, .int .i64 0, .int .i64 0] 2)
            replace Y := Y.alloc (.cells #[.int .i64 0, .int .i64 0, .int .i64 0, .int .i64 0] 2)
            have nUH : _ ≠ _ := (Nat.ne_of_lt H.lt).symm
            replace H := H.alloc (.cells #[.int .i64 0, .int .i64 0, .int .i64 0, .int .i64 0] 2)
            replace T := T.alloc (.cells #[.int .i64 0, .int .i64 0, .int .i64 0, .int .i64 0] 2)
            have U := Blk.new w2 2 #[.int .i64 0, .int .i64 0, .int .i64 0, .int .i64 0]
            have ltU := U.lt
            have nTU : (w2).heap.size ∉ b0 := fun hm => absurd (ltT _ hm) (by simp)
            have gU : w.heap.size + 3 ≤ (w2).heap.size := Sz
            replace Sz : w.heap.size + 3 ≤ (w2.alloc (.cells #[.int .i64 0, .int .i64 0, .int .i64 0, .int .i64 0] 2)).heap.size := Nat.le_trans Sz (by simp)
            replace B := B.alloc B.size (.cells #[.int .i64 0, .int .i64 0, .int .i64 0, .int .i64 0] 2)
            refine hK.out _ _ ⟨X.at.1, C.at.1⟩ (fun hS => ?_)
            clear hK K
            (try simp only [List.getElem_toArray]); (try simp only [List.getElem_cons_succ]); (try simp only [List.getElem_cons_zero]); (try simp only [Act.put]); (try simp only [List.setIfInBounds_toArray]); (try simp only [List.set_cons_succ]); (try simp only [List.set_cons_zero])
            refine wpAnyH_take (i := 7) (v := .agg #[.slice q0 xss.length d0, .slice (some ⟨w2.heap.size, 0, none⟩) 4 4, .int .i64 0, .slice (some ⟨w4.heap.size, 0, none⟩) 4 4, .int .i64 c.xWho, .int .i64 c.xAt, .int .i64 c.xBy, .bool c.xCry, .bool false, .int .i64 0, .int .i64 0, .int .i64 0, .int .i64 0, .int .i64 0, .int .i64 0, .int .i64 0]) rfl (by kernel_rfl) (by kernel_rfl) (by kernel_rfl) (fun _ _ _ h => h) (Or.inl ⟨by rfl, ?_⟩) hS ?_
            · intro w' hSw
              go_simp
            (try simp only [List.getElem_toArray]); (try simp only [List.getElem_cons_succ]); (try simp only [List.getElem_cons_zero]); (try simp only [Act.put]); (try simp only [List.setIfInBounds_toArray]); (try simp only [List.set_cons_succ]); (try simp only [List.set_cons_zero])
            refine wpAnyH_take (i := 8) (v := .agg #[.int .i64 0, .int .i64 0, .slice q0 xss.length d0, .slice (some ⟨w2.heap.size, 0, none⟩) 4 4, .int .i64 0, .slice (some ⟨w4.heap.size, 0, none⟩) 4 4, .int .i64 c.xWho, .int .i64 c.xAt, .int .i64 c.xBy, .bool c.xCry, .bool false, .int .i64 0, .int .i64 0, .int .i64 0, .int .i64 0, .int .i64 0, .int .i64 0, .int .i64 0]) rfl (by kernel_rfl) (by kernel_rfl) (by kernel_rfl) (fun _ _ _ h => h) (Or.inl ⟨by rfl, ?_⟩) hS ?_
            · intro w' hSw
              go_simp
            (try simp only [List.getElem_toArray]); (try simp only [List.getElem_cons_succ]); (try simp only [List.getElem_cons_zero]); (try simp only [Act.put]); (try simp only [List.setIfInBounds_toArray]); (try simp only [List.set_cons_succ]); (try simp only [List.set_cons_zero])
            refine wpAnyH_ready (rs := [9]) (by kernel_rfl) (by simp) ?_
            refine AllReadyH.cons (o := _) rfl (fun K hK => ?_) AllReadyH.nil
            refine step_store_blk rfl 61 _ _ rfl (w.heap.size + 1 + 1) _ rfl rfl Y rfl (by kernel_rfl) (by kernel_rfl) ?_
            intro w9 Y9 O9
            refine hK.out _ _ ⟨(X.off O9 (ne_one (by omega))).at.1, (C.off O9 (ne_one (by omega))).at.1⟩ (fun hS => ?_)
            clear hK K
            (try simp only [List.getElem_toArray]); (try simp only [List.getElem_cons_succ]); (try simp only [List.getElem_cons_zero]); (try simp only [Act.put]); (try simp only [List.setIfInBounds_toArray]); (try simp only [List.set_cons_succ]); (try simp only [List.set_cons_zero])
            refine wpAnyH_done (by kernel_rfl) ?_ _
            have no9 : ∀ y, w.heap.size + 3 ≤ y → y ∉ [w.heap.size + 1 + 1] := fun y hy hm => by simp at hm; omega
            have N9 := OwNet.fresh (c := c) (T.off O9 (fun y hy => no9 y (F0 y hy))) (U.off O9 (no9 _ gU)) (H.off O9 (no9 _ gH)) nTU nTH nUH
            have B9 : Below w.heap.size w w9 := B.trans (O9.toBelow B.size (by simp; omega))
            go_wp2
            exact bodyPost_ret (v := .agg _) (results_blk Try.results31 rfl Y9 Try.underlying61 rfl (by kernel_rfl)) rfl ⟨_, b0, [w2.heap.size], [w4.drew.heap.size], rfl, OwNetResult.ofNet (by simpa using N9), fun y hy => by have := F0 y hy; omega, fun y hy => by rw [List.mem_singleton] at hy; rw [hy]; omega, fun y hy => by rw [List.mem_singleton] at hy; rw [hy]; omega, B9⟩
        · rw [if_pos (by rfl)]
          go_simp
          replace X := X.alloc (.cells #[.int .i64 0, .int .i64 0, .int .i64 0, .int .i64 0] 2)
          replace C := C.alloc (.cells #[.int .i64 0, .int .i64 0, .int .i64 0, .int .i64 0] 2)
          replace Y := Y.alloc (.cells #[.int .i64 0, .int .i64 0, .int .i64 0, .int .i64 0] 2)
          have nUH : _ ≠ _ := (Nat.ne_of_lt H.lt).symm
          replace H := H.alloc (.cells #[.int .i64 0, .int .i64 0, .int .i64 0, .int .i64 0] 2)
          have U := Blk.new (w4.drew.alloc (.cells #[.slice none 0 0, .slice none 0 0, .slice none 0 0, .slice none 0 0] 42)) 2 #[.int .i64 0, .int .i64 0, .int .i64 0, .int .i64 0]
          have ltU := U.lt
          have gU : w.heap.size + 3 ≤ ((w4.drew.alloc (.cells #[.slice none 0 0, .slice none 0 0, .slice none 0 0, .slice none 0 0] 42))).heap.size := Sz
          replace Sz : w.heap.size + 3 ≤ ((w4.drew.alloc (.cells #[.slice none 0 0, .slice none 0 0, .slice none 0 0, .slice none 0 0] 42)).alloc (.cells #[.int .i64 0, .int .i64 0, .int .i64 0, .int .i64 0] 2)).heap.size := Nat.le_trans Sz (by simp)
          replace B := B.alloc B.size (.cells #[.int .i64 0, .int .i64 0, .int .i64 0, .int .i64 0] 2)
          refine hK.out _ _ ⟨X.at.1, C.at.1⟩ (fun hS => ?_)
          clear hK K
          (try simp only [List.getElem_toArray]); (try simp only [List.getElem_cons_succ]); (try simp only [List.getElem_cons_zero]); (try simp only [Act.put]); (try simp only [List.setIfInBounds_toArray]); (try simp only [List.set_cons_succ]); (try simp only [List.set_cons_zero])
          refine wpAnyH_ready (rs := [2]) (by kernel_rfl) (by simp) ?_
          refine AllReadyH.cons (o := _) rfl (fun K hK => ?_) AllReadyH.nil
          · rw [if_pos (by rfl)]
            go_simp
            go_at_call 78
            refine (impl_copyOfLists _ xss _ (hv.below B) hlen hrow).mono ?_
            rintro e w2 ⟨u, b0, rfl, T, f0, hb⟩
            obtain ⟨q0, d0, rfl⟩ := T.value
            replace X := X.keep hb
            replace C := C.keep hb
            replace Y := Y.keep hb
            have nTH : _ ∉ b0 := fun hm => Nat.not_lt.2 (f0 _ hm) H.lt
            replace H := H.keep hb
            have nTU : _ ∉ b0 := fun hm => Nat.not_lt.2 (f0 _ hm) U.lt
            replace U := U.keep hb
            have ltT := T.lt
            have F0 : ∀ y ∈ b0, w.heap.size + 3 ≤ y := fun y hy => Nat.le_trans Sz (f0 y hy)
            replace Sz := Nat.le_trans Sz hb.size
            replace B := B.trans (hb.mono B.size)
            clear hb
            (try dsimp only)
            refine hK.out _ _ ⟨X.at.1, C.at.1⟩ (fun hS => ?_)
            clear hK K
            (try simp only [List.getElem_toArray]); (try simp only [List.getElem_cons_succ]); (try simp only [List.getElem_cons_zero]); (try simp only [Act.put]); (try simp only [List.setIfInBounds_toArray]); (try simp only [List.set_cons_succ]); (try simp only [List.set_cons_zero])
            refine wpAnyH_take (i := 3) (v := .agg #[.slice q0 xss.length d0]) rfl (by kernel_rfl) (by kernel_rfl) (by kernel_rfl) (fun _ _ _ h => h) (Or.inl ⟨by rfl, ?_⟩) hS ?_
            · intro w' hSw
              go_simp
            (try simp only [List.getElem_toArray]); (try simp only [List.getElem_cons_succ]); (try simp only [List.getElem_cons_zero]); (try simp only [Act.put]); (try simp only [List.setIfInBounds_toArray]); (try simp only [List.set_cons_succ]); (try simp only [List.set_cons_zero])
            refine wpAnyH_take (i := 7) (v := .agg #[.slice q0 xss.length d0, .slice (some ⟨w4.heap.size + 1, 0, none⟩) 4 4, .int .i64 0, .slice (some ⟨w4.heap.size, 0, none⟩) 4 4, .int .i64 c.xWho, .int .i64 c.xAt, .int .i64 c.xBy, .bool c.xCry, .bool false, .int .i64 0, .int .i64 0, .int .i64 0, .int .i64 0, .int .i64 0, .int .i64 0, .int .i64 0]) rfl (by kernel_rfl) (by kernel_rfl) (by kernel_rfl) (fun _ _ _ h => h) (Or.inl ⟨by rfl, ?_⟩) hS ?_
            · intro w' hSw
              go_simp
            (try simp only [List.getElem_toArray]); (try simp only [List.getElem_cons_succ]); (try simp only [List.getElem_cons_zero]); (try simp only [Act.put]); (try simp only [List.setIfInBounds_toArray]); (try simp only [List.set_cons_succ]); (try simp only [List.set_cons_zero])
            refine wpAnyH_take (i := 8) (v := .agg #[.int .i64 0, .int .i64 0, .slice q0 xss.length d0, .slice (some ⟨w4.heap.size + 1, 0, none⟩) 4 4, .int .i64 0, .slice (some ⟨w4.heap.size, 0, none⟩) 4 4, .int .i64 c.xWho, .int .i64 c.xAt, .int .i64 c.xBy, .bool c.xCry, .bool false, .int .i64 0, .int .i64 0, .int .i64 0, .int .i64 0, .int .i64 0, .int .i64 0, .int .i64 0]) rfl (by kernel_rfl) (by kernel_rfl) (by kernel_rfl) (fun _ _ _ h => h) (Or.inl ⟨by rfl, ?_⟩) hS ?_
            · intro w' hSw
              go_simp
            (try simp only [List.getElem_toArray]); (try simp only [List.getElem_cons_succ]); (try simp only [List.getElem_cons_zero]); (try simp only [Act.put]); (try simp only [List.setIfInBounds_toArray]); (try simp only [List.set_cons_succ]); (try simp only [List.set_cons_zero])
            refine wpAnyH_ready (rs := [9]) (by kernel_rfl) (by simp) ?_
            refine AllReadyH.cons (o := _) rfl (fun K hK => ?_) AllReadyH.nil
            refine step_store_blk rfl 61 _ _ rfl (w.heap.size + 1 + 1) _ rfl rfl Y rfl (by kernel_rfl) (by kernel_rfl) ?_
            intro w9 Y9 O9
            refine hK.out _ _ ⟨(X.off O9 (ne_one (by omega))).at.1, (C.off O9 (ne_one (by omega))).at.1⟩ (fun hS => ?_)
            clear hK K
            (try simp only [List.getElem_toArray]); (try simp only [List.getElem_cons_succ]); (try simp only [List.getElem_cons_zero]); (try simp only [Act.put]); (try simp only [List.setIfInBounds_toArray]); (try simp only [List.set_cons_succ]); (try simp only [List.set_cons_zero])
            refine wpAnyH_done (by kernel_rfl) ?_ _
            have no9 : ∀ y, w.heap.size + 3 ≤ y → y ∉ [w.heap.size + 1 + 1] := fun y hy hm => by simp at hm; omega
            have N9 := OwNet.fresh (c := c) (T.off O9 (fun y hy => no9 y (F0 y hy))) (U.off O9 (no9 _ gU)) (H.off O9 (no9 _ gH)) nTU nTH nUH
            have B9 : Below w.heap.size w w9 := B.trans (O9.toBelow B.size (by simp; omega))
            go_wp2
            exact bodyPost_ret (v := .agg _) (results_blk Try.results31 rfl Y9 Try.underlying61 rfl (by kernel_rfl)) rfl ⟨_, b0, [(w4.drew.alloc (.cells #[.slice none 0 0, .slice none 0 0, .slice none 0 0, .slice none 0 0] 42)).heap.size], [w4.drew.heap.size], rfl, OwNetResult.ofNet (by simpa using N9), fun y hy => by have := F0 y hy; omega, fun y hy => by rw [List.mem_singleton] at hy; rw [hy]; omega, fun y hy => by rw [List.mem_singleton] at hy; rw [hy]; omega, B9⟩
    · rw [show newR xss c = badN (cheatC c) by unfold newR; rw [if_pos k0, if_neg k1]]
      have hne : (cheatC c != 0) = true := by simpa using k1
      clear k0 k1 h4 hrow
      generalize cheatC c = r at *
      go_enter Try.func31, Try.ntmps31
      go_wp2_with fail
      refine (KT _ (hv.below B)).mono ?_
      rintro e w3 ⟨rfl, hb3⟩
      have s3 := hb3.size
      rw [sz] at s3
      replace X := X.keep hb3
      replace C := C.keep hb3
      replace Y := Y.keep hb3
      replace B : Below w.heap.size w w3 := B.trans (hb3.mono B.size)
      clear hb3
      have ca := C.at.1
      go_wp2_with fail
      clear ca
      refine (KC _).mono ?_
      rintro e w4 ⟨rfl, hb4⟩
      have s4 := Nat.le_trans s3 hb4.size
      replace X := X.keep hb4
      replace C := C.keep hb4
      replace Y := Y.keep hb4
      replace B : Below w.heap.size w w4 := B.trans (hb4.mono B.size)
      clear hb4
      go_wp2_with (refine wpList_store_blk rfl 61 _ _ rfl (w.heap.size + 1 + 1) (#[.int .i64 r, .int .i64 0, .slice none 0 0, .slice none 0 0, .int .i64 0, .slice none 0 0, .int .i64 0, .int .i64 0, .int .i64 0, .bool false, .bool false, .int .i64 0, .int .i64 0, .int .i64 0, .int .i64 0, .int .i64 0, .int .i64 0, .int .i64 0]) rfl rfl Y rfl (by kernel_rfl) (by kernel_rfl) ?_; intro w9 Y9 O9)
      have B9 : Below w.heap.size w w9 := B.trans (O9.toBelow B.size (by simp; omega))
      exact bodyPost_ret (v := .agg #[.int .i64 r, .int .i64 0, .slice none 0 0, .slice none 0 0, .int .i64 0, .slice none 0 0, .int .i64 0, .int .i64 0, .int .i64 0, .bool false, .bool false, .int .i64 0, .int .i64 0, .int .i64 0, .int .i64 0, .int .i64 0, .int .i64 0, .int .i64 0]) (results_blk Try.results31 rfl Y9 Try.underlying61 rfl (by kernel_rfl)) rfl (OutNetR.bad _ B9)
  · rw [show newR xss c = badN (tapeC xss) from if_neg k0]
    have hne : (tapeC xss != 0) = true := by simpa using k0
    clear k0 KC
    generalize tapeC xss = r at *
    go_enter Try.func31, Try.ntmps31
    go_wp2_with fail
    refine (KT _ (hv.below B)).mono ?_
    rintro e w3 ⟨rfl, hb3⟩
    have s3 := hb3.size
    rw [sz] at s3
    replace X := X.keep hb3
    replace C := C.keep hb3
    replace Y := Y.keep hb3
    replace B : Below w.heap.size w w3 := B.trans (hb3.mono B.size)
    clear hb3
    go_wp2_with (refine wpList_store_blk rfl 61 _ _ rfl (w.heap.size + 1 + 1) (#[.int .i64 r, .int .i64 0, .slice none 0 0, .slice none 0 0, .int .i64 0, .slice none 0 0, .int .i64 0, .int .i64 0, .int .i64 0, .bool false, .bool false, .int .i64 0, .int .i64 0, .int .i64 0, .int .i64 0, .int .i64 0, .int .i64 0, .int .i64 0]) rfl rfl Y rfl (by kernel_rfl) (by kernel_rfl) ?_; intro w9 Y9 O9)
    have B9 : Below w.heap.size w w9 := B.trans (O9.toBelow B.size (by simp; omega))
    exact bodyPost_ret (v := .agg #[.int .i64 r, .int .i64 0, .slice none 0 0, .slice none 0 0, .int .i64 0, .slice none 0 0, .int .i64 0, .int .i64 0, .int .i64 0, .bool false, .bool false, .int .i64 0, .int .i64 0, .int .i64 0, .int .i64 0, .int .i64 0, .int .i64 0, .int .i64 0]) (results_blk Try.results31 rfl Y9 Try.underlying61 rfl (by kernel_rfl)) rfl (OutNetR.bad _ B9)
end Go.Proofs.Ytadppilldijijaj
