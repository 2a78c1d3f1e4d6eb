/-
  Contracts of chapter 4: new nets: in the program and in its model.
-/
import Derived.Test.YtepobckhfodngabGreatJnW
namespace Go.Proofs.YtepobckhfodngabGreat
open Go.ChangeShapes Go.WideShapes Go.ChangeAt Go.RowKit
set_option linter.unusedVariables false

def freshN (xss : List (List Int)) (c : MCheat) : MNet := ⟨xss, [0, 0, 0, 0], 0, [[], [], [], []], c, ⟨false, 0, 0, 0, 0, 0, 0, 0⟩⟩
def newR (xss : List (List Int)) (c : MCheat) : MNetResult := if tapeC xss = 0 then (if cheatC c = 0 then ⟨0, 0, freshN xss c⟩ else badN (cheatC c)) else badN (tapeC xss)
theorem newR_cnt (xss : List (List Int)) (c : MCheat) (h : totTape xss ≤ 1048576) : cntNetResult (newR xss c) ≤ 268435456 := by
  have h1 := cntTape_le xss
  unfold newR
  split
  · split
    · show cntTape xss + 4 + 0 ≤ _
      omega
    · exact badN_cnt _
  · exact badN_cnt _
theorem Ints.four {W : World} {g : Nat} (h : Blk W g 2 #[.int .i64 0, .int .i64 0, .int .i64 0, .int .i64 0]) : Ints W (.slice (some ⟨g, 0, none⟩) 4 4) [0, 0, 0, 0] [g] :=
  ⟨2, rfl, .inr ⟨g, 4, _, rfl, rfl, h, Nat.le_refl _, by unfold maxLen; omega, rfl, rfl⟩⟩
theorem Mat.four {W : World} {g : Nat} (h : Blk W g 27 #[.slice none 0 0, .slice none 0 0, .slice none 0 0, .slice none 0 0]) : Mat W (.slice (some ⟨g, 0, none⟩) 4 4) [[], [], [], []] [g] :=
  ⟨[.slice none 0 0, .slice none 0 0, .slice none 0 0, .slice none 0 0], [g], [[], [], [], []], ⟨rfl, .inr ⟨g, 4, _, rfl, rfl, h, Nat.le_refl _, by unfold maxLen; omega, rfl, rfl⟩⟩, ⟨Ints.nil _, Ints.nil _, Ints.nil _, Ints.nil _, trivial⟩, by simp, by simp⟩
theorem ne_one {a b : Nat} (h : a ≠ b) : a ∉ [b] := fun hm => h (List.mem_singleton.1 hm)
/-- what a new net is made of -/
theorem OwNet.fresh {W : World} {xss : List (List Int)} {c : MCheat} {q0 : Option Addr} {d0 g1 g2 : Nat} {b0 : List Nat} (hT : Mat W (.slice q0 xss.length d0) xss b0) (h1 : Blk W g1 2 #[.int .i64 0, .int .i64 0, .int .i64 0, .int .i64 0]) (h2 : Blk W g2 27 #[.slice none 0 0, .slice none 0 0, .slice none 0 0, .slice none 0 0]) (n1 : g1 ∉ b0) (n2 : g2 ∉ b0) (n3 : g1 ≠ g2) :
    OwNet W (.agg #[.slice q0 xss.length d0, .slice (some ⟨g1, 0, none⟩) 4 4, .int .i64 0, .slice (some ⟨g2, 0, none⟩) 4 4, .int .i64 c.xWho, .int .i64 c.xAt, .int .i64 c.xBy, .bool c.xCry, .bool false, .int .i64 0, .int .i64 0, .int .i64 0, .int .i64 0, .int .i64 0, .int .i64 0, .int .i64 0]) (freshN xss c) b0 [g1] [g2] :=
  ⟨q0, d0, some ⟨g1, 0, none⟩, 4, some ⟨g2, 0, none⟩, 4, rfl, hT, Ints.four h1, Mat.four h2, fun y hy hm => n1 (by simp at hm; rw [← hm]; exact hy), fun y hy hm => n2 (by simp at hm; rw [← hm]; exact hy), fun y hy hm => n3 (by simp at hy hm; omega)⟩
set_option maxHeartbeats 4000000 in
set_option maxRecDepth 100000 in
theorem spec_l4New (v : Value) (xss : List (List Int)) (c : MCheat) (w : World) (hv : RdTape w v xss) (hl : tot xss ≤ 1048576) :
    Calls Tryz.prog 90 #[v, .agg #[.int .i64 c.xWho, .int .i64 c.xAt, .int .i64 c.xBy, .bool c.xCry]] w fun e w' => OutNet w w' (freshN xss c) e := by
  obtain ⟨p, d, rfl, hv⟩ := hv
  have mk1 : ∀ w, (Instr.makeSlice 27 (.int .i64 4) (.int .i64 4)).run Tryz.prog w = .ok (.slice (some ⟨w.heap.size, 0, none⟩) 4 4) (w.alloc (.cells #[.int .i64 0, .int .i64 0, .int .i64 0, .int .i64 0] 2)) := fun _ => by kernel_rfl
  have mk2 : ∀ w, (Instr.makeSlice 24 (.int .i64 4) (.int .i64 4)).run Tryz.prog w = .ok (.slice (some ⟨w.heap.size, 0, none⟩) 4 4) (w.alloc (.cells #[.slice none 0 0, .slice none 0 0, .slice none 0 0, .slice none 0 0] 27)) := fun _ => by kernel_rfl
  have B : Below w.heap.size w (((w.alloc (.cells #[.slice p xss.length d] 26)).alloc (.cells #[.int .i64 c.xWho, .int .i64 c.xAt, .int .i64 c.xBy, .bool c.xCry] 29)).alloc (.cells #[.slice none 0 0, .slice none 0 0, .int .i64 0, .slice none 0 0, .int .i64 0, .int .i64 0, .int .i64 0, .bool false, .bool false, .int .i64 0, .int .i64 0, .int .i64 0, .int .i64 0, .int .i64 0, .int .i64 0, .int .i64 0] 33)) := (by repeat (first | exact Below.refl _ _ | refine Below.drew ?_ | refine below_drewN ?_ _ | refine Below.setCell ?_ (by first | omega | (simp; done) | (simp; omega)) _ | refine Below.alloc ?_ (by first | omega | (simp; done) | (simp; omega)) _))
  have X : Blk (((w.alloc (.cells #[.slice p xss.length d] 26)).alloc (.cells #[.int .i64 c.xWho, .int .i64 c.xAt, .int .i64 c.xBy, .bool c.xCry] 29)).alloc (.cells #[.slice none 0 0, .slice none 0 0, .int .i64 0, .slice none 0 0, .int .i64 0, .int .i64 0, .int .i64 0, .bool false, .bool false, .int .i64 0, .int .i64 0, .int .i64 0, .int .i64 0, .int .i64 0, .int .i64 0, .int .i64 0] 33)) w.heap.size 26 #[.slice p xss.length d] := ((Blk.new w _ _).alloc _).alloc _
  have C : Blk (((w.alloc (.cells #[.slice p xss.length d] 26)).alloc (.cells #[.int .i64 c.xWho, .int .i64 c.xAt, .int .i64 c.xBy, .bool c.xCry] 29)).alloc (.cells #[.slice none 0 0, .slice none 0 0, .int .i64 0, .slice none 0 0, .int .i64 0, .int .i64 0, .int .i64 0, .bool false, .bool false, .int .i64 0, .int .i64 0, .int .i64 0, .int .i64 0, .int .i64 0, .int .i64 0, .int .i64 0] 33)) (w.heap.size + 1) 29 #[.int .i64 c.xWho, .int .i64 c.xAt, .int .i64 c.xBy, .bool c.xCry] := by simpa using (Blk.new (w.alloc (.cells #[.slice p xss.length d] 26)) 29 #[.int .i64 c.xWho, .int .i64 c.xAt, .int .i64 c.xBy, .bool c.xCry]).alloc (.cells #[.slice none 0 0, .slice none 0 0, .int .i64 0, .slice none 0 0, .int .i64 0, .int .i64 0, .int .i64 0, .bool false, .bool false, .int .i64 0, .int .i64 0, .int .i64 0, .int .i64 0, .int .i64 0, .int .i64 0, .int .i64 0] 33)
  have Y : Blk (((w.alloc (.cells #[.slice p xss.length d] 26)).alloc (.cells #[.int .i64 c.xWho, .int .i64 c.xAt, .int .i64 c.xBy, .bool c.xCry] 29)).alloc (.cells #[.slice none 0 0, .slice none 0 0, .int .i64 0, .slice none 0 0, .int .i64 0, .int .i64 0, .int .i64 0, .bool false, .bool false, .int .i64 0, .int .i64 0, .int .i64 0, .int .i64 0, .int .i64 0, .int .i64 0, .int .i64 0] 33)) (w.heap.size + 1 + 1) 33 #[.slice none 0 0, .slice none 0 0, .int .i64 0, .slice none 0 0, .int .i64 0, .int .i64 0, .int .i64 0, .bool false, .bool false, .int .i64 0, .int .i64 0, .int .i64 0, .int .i64 0, .int .i64 0, .int .i64 0, .int .i64 0] := by simpa using Blk.new ((w.alloc (.cells #[.slice p xss.length d] 26)).alloc (.cells #[.int .i64 c.xWho, .int .i64 c.xAt, .int .i64 c.xBy, .bool c.xCry] 29)) 33 #[.slice none 0 0, .slice none 0 0, .int .i64 0, .slice none 0 0, .int .i64 0, .int .i64 0, .int .i64 0, .bool false, .bool false, .int .i64 0, .int .i64 0, .int .i64 0, .int .i64 0, .int .i64 0, .int .i64 0, .int .i64 0]
  have sz : (((w.alloc (.cells #[.slice p xss.length d] 26)).alloc (.cells #[.int .i64 c.xWho, .int .i64 c.xAt, .int .i64 c.xBy, .bool c.xCry] 29)).alloc (.cells #[.slice none 0 0, .slice none 0 0, .int .i64 0, .slice none 0 0, .int .i64 0, .int .i64 0, .int .i64 0, .bool false, .bool false, .int .i64 0, .int .i64 0, .int .i64 0, .int .i64 0, .int .i64 0, .int .i64 0, .int .i64 0] 33)).heap.size = w.heap.size + 3 := by simp
  go_enter Tryz.func90, Tryz.ntmps90
  go_wp2_with fail
  refine wp_region_held (S := fun V => (∀ o, V.cell? ⟨w.heap.size, o, none⟩ = (#[.slice p xss.length d] : Array Value)[o]?) ∧ (∀ o, V.cell? ⟨w.heap.size + 1, o, none⟩ = (#[.int .i64 c.xWho, .int .i64 c.xAt, .int .i64 c.xBy, .bool c.xCry] : Array Value)[o]?)) (by kernel_rfl) ?_
  try (change wpAnyH _ _ _ _ _ _ _ _ (World.drew _))
  replace X := X.drew
  replace C := C.drew
  replace Y := Y.drew
  replace B := B.drew
  have Sz : w.heap.size + 3 ≤ (((w.alloc (.cells #[.slice p xss.length d] 26)).alloc (.cells #[.int .i64 c.xWho, .int .i64 c.xAt, .int .i64 c.xBy, .bool c.xCry] 29)).alloc (.cells #[.slice none 0 0, .slice none 0 0, .int .i64 0, .slice none 0 0, .int .i64 0, .int .i64 0, .int .i64 0, .bool false, .bool false, .int .i64 0, .int .i64 0, .int .i64 0, .int .i64 0, .int .i64 0, .int .i64 0, .int .i64 0] 33)).drew.heap.size := Nat.le_of_eq sz.symm
  have hS : (∀ o, (((w.alloc (.cells #[.slice p xss.length d] 26)).alloc (.cells #[.int .i64 c.xWho, .int .i64 c.xAt, .int .i64 c.xBy, .bool c.xCry] 29)).alloc (.cells #[.slice none 0 0, .slice none 0 0, .int .i64 0, .slice none 0 0, .int .i64 0, .int .i64 0, .int .i64 0, .bool false, .bool false, .int .i64 0, .int .i64 0, .int .i64 0, .int .i64 0, .int .i64 0, .int .i64 0, .int .i64 0] 33)).drew.cell? ⟨w.heap.size, o, none⟩ = (#[.slice p xss.length d] : Array Value)[o]?) ∧ (∀ o, (((w.alloc (.cells #[.slice p xss.length d] 26)).alloc (.cells #[.int .i64 c.xWho, .int .i64 c.xAt, .int .i64 c.xBy, .bool c.xCry] 29)).alloc (.cells #[.slice none 0 0, .slice none 0 0, .int .i64 0, .slice none 0 0, .int .i64 0, .int .i64 0, .int .i64 0, .bool false, .bool false, .int .i64 0, .int .i64 0, .int .i64 0, .int .i64 0, .int .i64 0, .int .i64 0, .int .i64 0] 33)).drew.cell? ⟨w.heap.size + 1, o, none⟩ = (#[.int .i64 c.xWho, .int .i64 c.xAt, .int .i64 c.xBy, .bool c.xCry] : Array Value)[o]?) := ⟨X.at.1, C.at.1⟩
  refine wpAnyH_take (i := 0) (v := ?vn1) rfl (by kernel_rfl) (by kernel_rfl) (by kernel_rfl) (fun _ _ _ h => h) (Or.inl ⟨by rfl, ?hn1⟩) hS ?rn1
  case hn1 => intro w' hSw; go_simp; (try with_reducible rfl)
  (try simp only [List.getElem_toArray]); (try simp only [List.getElem_cons_succ]); (try simp only [List.getElem_cons_zero]); (try simp only [Act.put]); (try simp only [List.setIfInBounds_toArray]); (try simp only [List.set_cons_succ]); (try simp only [List.set_cons_zero])
  refine wpAnyH_take (i := 4) (v := ?vn2) rfl (by kernel_rfl) (by kernel_rfl) (by kernel_rfl) (fun _ _ _ h => h) (Or.inl ⟨by rfl, ?hn2⟩) hS ?rn2
  case hn2 => intro w' hSw; go_simp; (try with_reducible rfl)
  (try simp only [List.getElem_toArray]); (try simp only [List.getElem_cons_succ]); (try simp only [List.getElem_cons_zero]); (try simp only [Act.put]); (try simp only [List.setIfInBounds_toArray]); (try simp only [List.set_cons_succ]); (try simp only [List.set_cons_zero])
  refine wpAnyH_ready (rs := [1, 2, 3]) (by kernel_rfl) (by simp) ?_
  refine AllReadyH.cons (o := _) rfl (fun K hK => ?_) (AllReadyH.cons (o := _) rfl (fun K hK => ?_) (AllReadyH.cons (o := _) rfl (fun K hK => ?_) AllReadyH.nil))
  · rw [if_pos (by rfl)]
    go_simp
    go_at_call 79
    refine (spec_l2Copy _ xss _ ⟨p, d, rfl, hv.below B⟩ hl).mono ?_
    rintro e w2 ⟨u, b0, rfl, T, f0, hb⟩
    obtain ⟨q0, d0, rfl, T⟩ := T
    replace X := X.keep hb
    replace C := C.keep hb
    replace Y := Y.keep hb
    have ltT := T.lt
    have F0 : ∀ y ∈ b0, w.heap.size + 3 ≤ y := fun y hy => Nat.le_trans Sz (f0 y hy)
    replace Sz := Nat.le_trans Sz hb.size
    replace B := B.trans (hb.mono B.size)
    clear hb
    (try dsimp only)
    refine hK.out _ _ ⟨X.at.1, C.at.1⟩ (fun hS => ?_)
    clear hK K
    (try simp only [List.getElem_toArray]); (try simp only [List.getElem_cons_succ]); (try simp only [List.getElem_cons_zero]); (try simp only [Act.put]); (try simp only [List.setIfInBounds_toArray]); (try simp only [List.set_cons_succ]); (try simp only [List.set_cons_zero])
    refine wpAnyH_ready (rs := [2, 3]) (by kernel_rfl) (by simp) ?_
    refine AllReadyH.cons (o := _) rfl (fun K hK => ?_) (AllReadyH.cons (o := _) rfl (fun K hK => ?_) AllReadyH.nil)
    · rw [if_pos (by rfl)]
      go_simp
      replace X := X.alloc (.cells #[.int .i64 0, .int .i64 0, .int .i64 0, .int .i64 0] 2)
      replace C := C.alloc (.cells #[.int .i64 0, .int .i64 0, .int .i64 0, .int .i64 0] 2)
      replace Y := Y.alloc (.cells #[.int .i64 0, .int .i64 0, .int .i64 0, .int .i64 0] 2)
      replace T := T.alloc (.cells #[.int .i64 0, .int .i64 0, .int .i64 0, .int .i64 0] 2)
      have U := Blk.new w2 2 #[.int .i64 0, .int .i64 0, .int .i64 0, .int .i64 0]
      have ltU := U.lt
      have nTU : (w2).heap.size ∉ b0 := fun hm => absurd (ltT _ hm) (by simp)
      have gU : w.heap.size + 3 ≤ (w2).heap.size := Sz
      replace Sz : w.heap.size + 3 ≤ (w2.alloc (.cells #[.int .i64 0, .int .i64 0, .int .i64 0, .int .i64 0] 2)).heap.size := Nat.le_trans Sz (by simp)
      replace B := B.alloc B.size (.cells #[.int .i64 0, .int .i64 0, .int .i64 0, .int .i64 0] 2)
      refine hK.out _ _ ⟨X.at.1, C.at.1⟩ (fun hS => ?_)
      clear hK K
      (try simp only [List.getElem_toArray]); (try simp only [List.getElem_cons_succ]); (try simp only [List.getElem_cons_zero]); (try simp only [Act.put]); (try simp only [List.setIfInBounds_toArray]); (try simp only [List.set_cons_succ]); (try simp only [List.set_cons_zero])
      refine wpAnyH_ready (rs := [3]) (by kernel_rfl) (by simp) ?_
      refine AllReadyH.cons (o := _) rfl (fun K hK => ?_) AllReadyH.nil
      · rw [if_pos (by rfl)]
        go_simp
        replace X := X.alloc (.cells #[.slice none 0 0, .slice none 0 0, .slice none 0 0, .slice none 0 0] 27)
        replace C := C.alloc (.cells #[.slice none 0 0, .slice none 0 0, .slice none 0 0, .slice none 0 0] 27)
        replace Y := Y.alloc (.cells #[.slice none 0 0, .slice none 0 0, .slice none 0 0, .slice none 0 0] 27)
        replace T := T.alloc (.cells #[.slice none 0 0, .slice none 0 0, .slice none 0 0, .slice none 0 0] 27)
        have nUH : _ ≠ _ := Nat.ne_of_lt U.lt
        replace U := U.alloc (.cells #[.slice none 0 0, .slice none 0 0, .slice none 0 0, .slice none 0 0] 27)
        have H := Blk.new (w2.alloc (.cells #[.int .i64 0, .int .i64 0, .int .i64 0, .int .i64 0] 2)) 27 #[.slice none 0 0, .slice none 0 0, .slice none 0 0, .slice none 0 0]
        have ltH := H.lt
        have nTH : ((w2.alloc (.cells #[.int .i64 0, .int .i64 0, .int .i64 0, .int .i64 0] 2))).heap.size ∉ b0 := fun hm => absurd (ltT _ hm) (by simp)
        have gH : w.heap.size + 3 ≤ ((w2.alloc (.cells #[.int .i64 0, .int .i64 0, .int .i64 0, .int .i64 0] 2))).heap.size := Sz
        replace Sz : w.heap.size + 3 ≤ ((w2.alloc (.cells #[.int .i64 0, .int .i64 0, .int .i64 0, .int .i64 0] 2)).alloc (.cells #[.slice none 0 0, .slice none 0 0, .slice none 0 0, .slice none 0 0] 27)).heap.size := Nat.le_trans Sz (by simp)
        replace B := B.alloc B.size (.cells #[.slice none 0 0, .slice none 0 0, .slice none 0 0, .slice none 0 0] 27)
        refine hK.out _ _ ⟨X.at.1, C.at.1⟩ (fun hS => ?_)
        clear hK K
        (try simp only [List.getElem_toArray]); (try simp only [List.getElem_cons_succ]); (try simp only [List.getElem_cons_zero]); (try simp only [Act.put]); (try simp only [List.setIfInBounds_toArray]); (try simp only [List.set_cons_succ]); (try simp only [List.set_cons_zero])
        refine wpAnyH_take (i := 5) (v := .agg #[.slice q0 xss.length d0, .slice (some ⟨w2.heap.size, 0, none⟩) 4 4, .int .i64 0, .slice (some ⟨w2.heap.size + 1, 0, none⟩) 4 4, .int .i64 c.xWho, .int .i64 c.xAt, .int .i64 c.xBy, .bool c.xCry, .bool false, .int .i64 0, .int .i64 0, .int .i64 0, .int .i64 0, .int .i64 0, .int .i64 0, .int .i64 0]) rfl (by kernel_rfl) (by kernel_rfl) (by kernel_rfl) (fun _ _ _ h => h) (Or.inl ⟨by rfl, ?_⟩) hS ?_
        · intro w' hSw
          go_simp
        (try simp only [List.getElem_toArray]); (try simp only [List.getElem_cons_succ]); (try simp only [List.getElem_cons_zero]); (try simp only [Act.put]); (try simp only [List.setIfInBounds_toArray]); (try simp only [List.set_cons_succ]); (try simp only [List.set_cons_zero])
        refine wpAnyH_ready (rs := [6]) (by kernel_rfl) (by simp) ?_
        refine AllReadyH.cons (o := _) rfl (fun K hK => ?_) AllReadyH.nil
        refine step_store_blk rfl 33 _ _ rfl (w.heap.size + 1 + 1) _ rfl rfl Y rfl (by kernel_rfl) (by kernel_rfl) ?_
        intro w9 Y9 O9
        refine hK.out _ _ ⟨(X.off O9 (ne_one (by omega))).at.1, (C.off O9 (ne_one (by omega))).at.1⟩ (fun hS => ?_)
        clear hK K
        (try simp only [List.getElem_toArray]); (try simp only [List.getElem_cons_succ]); (try simp only [List.getElem_cons_zero]); (try simp only [Act.put]); (try simp only [List.setIfInBounds_toArray]); (try simp only [List.set_cons_succ]); (try simp only [List.set_cons_zero])
        refine wpAnyH_done (by kernel_rfl) ?_ _
        have no9 : ∀ y, w.heap.size + 3 ≤ y → y ∉ [w.heap.size + 1 + 1] := fun y hy hm => by simp at hm; omega
        have N9 := OwNet.fresh (c := c) (T.off O9 (fun y hy => no9 y (F0 y hy))) (U.off O9 (no9 _ gU)) (H.off O9 (no9 _ gH)) nTU nTH nUH
        have B9 : Below w.heap.size w w9 := B.trans (O9.toBelow B.size (by simp; omega))
        go_wp2
        exact bodyPost_ret (v := .agg _) (results_blk Tryz.results90 rfl Y9 Tryz.underlying33 rfl (by kernel_rfl)) rfl ⟨_, b0, [w2.heap.size], [(w2.alloc (.cells #[.int .i64 0, .int .i64 0, .int .i64 0, .int .i64 0] 2)).heap.size], rfl, by simpa using N9, fun y hy => by have := F0 y hy; omega, fun y hy => by rw [List.mem_singleton] at hy; rw [hy]; omega, fun y hy => by rw [List.mem_singleton] at hy; rw [hy]; omega, B9⟩
    · rw [if_pos (by rfl)]
      go_simp
      replace X := X.alloc (.cells #[.slice none 0 0, .slice none 0 0, .slice none 0 0, .slice none 0 0] 27)
      replace C := C.alloc (.cells #[.slice none 0 0, .slice none 0 0, .slice none 0 0, .slice none 0 0] 27)
      replace Y := Y.alloc (.cells #[.slice none 0 0, .slice none 0 0, .slice none 0 0, .slice none 0 0] 27)
      replace T := T.alloc (.cells #[.slice none 0 0, .slice none 0 0, .slice none 0 0, .slice none 0 0] 27)
      have H := Blk.new w2 27 #[.slice none 0 0, .slice none 0 0, .slice none 0 0, .slice none 0 0]
      have ltH := H.lt
      have nTH : (w2).heap.size ∉ b0 := fun hm => absurd (ltT _ hm) (by simp)
      have gH : w.heap.size + 3 ≤ (w2).heap.size := Sz
      replace Sz : w.heap.size + 3 ≤ (w2.alloc (.cells #[.slice none 0 0, .slice none 0 0, .slice none 0 0, .slice none 0 0] 27)).heap.size := Nat.le_trans Sz (by simp)
      replace B := B.alloc B.size (.cells #[.slice none 0 0, .slice none 0 0, .slice none 0 0, .slice none 0 0] 27)
      refine hK.out _ _ ⟨X.at.1, C.at.1⟩ (fun hS => ?_)
      clear hK K
      (try simp only [List.getElem_toArray]); (try simp only [List.getElem_cons_succ]); (try simp only [List.getElem_cons_zero]); (try simp only [Act.put]); (try simp only [List.setIfInBounds_toArray]); (try simp only [List.set_cons_succ]); (try simp only [List.set_cons_zero])
      refine wpAnyH_ready (rs := [2]) (by kernel_rfl) (by simp) ?_
      refine AllReadyH.cons (o := _) rfl (fun K hK => ?_) AllReadyH.nil
      · rw [if_pos (by rfl)]
        go_simp
        replace X := X.alloc (.cells #[.int .i64 0, .int .i64 0, .int .i64 0, .int .i64 0] 2)
        replace C := C.alloc (.cells #[.int .i64 0, .int .i64 0, .int .i64 0, .int .i64 0] 2)
        replace Y := Y.alloc (.cells #[.int .i64 0, .int .i64 0, .int .i64 0, .int .i64 0] 2)
        replace T := T.alloc (.cells #[.int .i64 0, .int .i64 0, .int .i64 0, .int .i64 0] 2)
        have nUH : _ ≠ _ := (Nat.ne_of_lt H.lt).symm
        replace H := H.alloc (.cells #[.int .i64 0, .int .i64 0, .int .i64 0, .int .i64 0] 2)
        have U := Blk.new (w2.alloc (.cells #[.slice none 0 0, .slice none 0 0, .slice none 0 0, .slice none 0 0] 27)) 2 #[.int .i64 0, .int .i64 0, .int .i64 0, .int .i64 0]
        have ltU := U.lt
        have nTU : ((w2.alloc (.cells #[.slice none 0 0, .slice none 0 0, .slice none 0 0, .slice none 0 0] 27))).heap.size ∉ b0 := fun hm => absurd (ltT _ hm) (by simp)
        have gU : w.heap.size + 3 ≤ ((w2.alloc (.cells #[.slice none 0 0, .slice none 0 0, .slice none 0 0, .slice none 0 0] 27))).heap.size := Sz
        replace Sz : w.heap.size + 3 ≤ ((w2.alloc (.cells #[.slice none 0 0, .slice none 0 0, .slice none 0 0, .slice none 0 0] 27)).alloc (.cells #[.int .i64 0, .int .i64 0, .int .i64 0, .int .i64 0] 2)).heap.size := Nat.le_trans Sz (by simp)
        replace B := B.alloc B.size (.cells #[.int .i64 0, .int .i64 0, .int .i64 0, .int .i64 0] 2)
        refine hK.out _ _ ⟨X.at.1, C.at.1⟩ (fun hS => ?_)
        clear hK K
        (try simp only [List.getElem_toArray]); (try simp only [List.getElem_cons_succ]); (try simp only [List.getElem_cons_zero]); (try simp only [Act.put]); (try simp only [List.setIfInBounds_toArray]); (try simp only [List.set_cons_succ]); (try simp only [List.set_cons_zero])
        refine wpAnyH_take (i := 5) (v := .agg #[.slice q0 xss.length d0, .slice (some ⟨w2.heap.size + 1, 0, none⟩) 4 4, .int .i64 0, .slice (some ⟨w2.heap.size, 0, none⟩) 4 4, .int .i64 c.xWho, .int .i64 c.xAt, .int .i64 c.xBy, .bool c.xCry, .bool false, .int .i64 0, .int .i64 0, .int .i64 0, .int .i64 0, .int .i64 0, .int .i64 0, .int .i64 0]) rfl (by kernel_rfl) (by kernel_rfl) (by kernel_rfl) (fun _ _ _ h => h) (Or.inl ⟨by rfl, ?_⟩) hS ?_
        · intro w' hSw
          go_simp
        (try simp only [List.getElem_toArray]); (try simp only [List.getElem_cons_succ]); (try simp only [List.getElem_cons_zero]); (try simp only [Act.put]); (try simp only [List.setIfInBounds_toArray]); (try simp only [List.set_cons_succ]); (try simp only [List.set_cons_zero])
        refine wpAnyH_ready (rs := [6]) (by kernel_rfl) (by simp) ?_
        refine AllReadyH.cons (o := _) rfl (fun K hK => ?_) AllReadyH.nil
        refine step_store_blk rfl 33 _ _ rfl (w.heap.size + 1 + 1) _ rfl rfl Y rfl (by kernel_rfl) (by kernel_rfl) ?_
        intro w9 Y9 O9
        refine hK.out _ _ ⟨(X.off O9 (ne_one (by omega))).at.1, (C.off O9 (ne_one (by omega))).at.1⟩ (fun hS => ?_)
        clear hK K
        (try simp only [List.getElem_toArray]); (try simp only [List.getElem_cons_succ]); (try simp only [List.getElem_cons_zero]); (try simp only [Act.put]); (try simp only [List.setIfInBounds_toArray]); (try simp only [List.set_cons_succ]); (try simp only [List.set_cons_zero])
        refine wpAnyH_done (by kernel_rfl) ?_ _
        have no9 : ∀ y, w.heap.size + 3 ≤ y → y ∉ [w.heap.size + 1 + 1] := fun y hy hm => by simp at hm; omega
        have N9 := OwNet.fresh (c := c) (T.off O9 (fun y hy => no9 y (F0 y hy))) (U.off O9 (no9 _ gU)) (H.off O9 (no9 _ gH)) nTU nTH nUH
        have B9 : Below w.heap.size w w9 := B.trans (O9.toBelow B.size (by simp; omega))
        go_wp2
        exact bodyPost_ret (v := .agg _) (results_blk Tryz.results90 rfl Y9 Tryz.underlying33 rfl (by kernel_rfl)) rfl ⟨_, b0, [(w2.alloc (.cells #[.slice none 0 0, .slice none 0 0, .slice none 0 0, .slice none 0 0] 27)).heap.size], [w2.heap.size], rfl, by simpa using N9, fun y hy => by have := F0 y hy; omega, fun y hy => by rw [List.mem_singleton] at hy; rw [hy]; omega, fun y hy => by rw [List.mem_singleton] at hy; rw [hy]; omega, B9⟩
  · rw [if_pos (by rfl)]
    go_simp
    replace X := X.alloc (.cells #[.int .i64 0, .int .i64 0, .int .i64 0, .int .i64 0] 2)
    replace C := C.alloc (.cells #[.int .i64 0, .int .i64 0, .int .i64 0, .int .i64 0] 2)
    replace Y := Y.alloc (.cells #[.int .i64 0, .int .i64 0, .int .i64 0, .int .i64 0] 2)
    have U := Blk.new (((w.alloc (.cells #[.slice p xss.length d] 26)).alloc (.cells #[.int .i64 c.xWho, .int .i64 c.xAt, .int .i64 c.xBy, .bool c.xCry] 29)).alloc (.cells #[.slice none 0 0, .slice none 0 0, .int .i64 0, .slice none 0 0, .int .i64 0, .int .i64 0, .int .i64 0, .bool false, .bool false, .int .i64 0, .int .i64 0, .int .i64 0, .int .i64 0, .int .i64 0, .int .i64 0, .int .i64 0] 33)).drew 2 #[.int .i64 0, .int .i64 0, .int .i64 0, .int .i64 0]
    have ltU := U.lt
    have gU : w.heap.size + 3 ≤ ((((w.alloc (.cells #[.slice p xss.length d] 26)).alloc (.cells #[.int .i64 c.xWho, .int .i64 c.xAt, .int .i64 c.xBy, .bool c.xCry] 29)).alloc (.cells #[.slice none 0 0, .slice none 0 0, .int .i64 0, .slice none 0 0, .int .i64 0, .int .i64 0, .int .i64 0, .bool false, .bool false, .int .i64 0, .int .i64 0, .int .i64 0, .int .i64 0, .int .i64 0, .int .i64 0, .int .i64 0] 33)).drew).heap.size := Sz
    replace Sz : w.heap.size + 3 ≤ ((((w.alloc (.cells #[.slice p xss.length d] 26)).alloc (.cells #[.int .i64 c.xWho, .int .i64 c.xAt, .int .i64 c.xBy, .bool c.xCry] 29)).alloc (.cells #[.slice none 0 0, .slice none 0 0, .int .i64 0, .slice none 0 0, .int .i64 0, .int .i64 0, .int .i64 0, .bool false, .bool false, .int .i64 0, .int .i64 0, .int .i64 0, .int .i64 0, .int .i64 0, .int .i64 0, .int .i64 0] 33)).drew.alloc (.cells #[.int .i64 0, .int .i64 0, .int .i64 0, .int .i64 0] 2)).heap.size := Nat.le_trans Sz (by simp)
    replace B := B.alloc B.size (.cells #[.int .i64 0, .int .i64 0, .int .i64 0, .int .i64 0] 2)
    refine hK.out _ _ ⟨X.at.1, C.at.1⟩ (fun hS => ?_)
    clear hK K
    (try simp only [List.getElem_toArray]); (try simp only [List.getElem_cons_succ]); (try simp only [List.getElem_cons_zero]); (try simp only [Act.put]); (try simp only [List.setIfInBounds_toArray]); (try simp only [List.set_cons_succ]); (try simp only [List.set_cons_zero])
    refine wpAnyH_ready (rs := [1, 3]) (by kernel_rfl) (by simp) ?_
    refine AllReadyH.cons (o := _) rfl (fun K hK => ?_) (AllReadyH.cons (o := _) rfl (fun K hK => ?_) AllReadyH.nil)
    · rw [if_pos (by rfl)]
      go_simp
      go_at_call 79
      refine (spec_l2Copy _ xss _ ⟨p, d, rfl, hv.below B⟩ hl).mono ?_
      rintro e w2 ⟨u, b0, rfl, T, f0, hb⟩
      obtain ⟨q0, d0, rfl, T⟩ := T
      replace X := X.keep hb
      replace C := C.keep hb
      replace Y := Y.keep hb
      have nTU : _ ∉ b0 := fun hm => Nat.not_lt.2 (f0 _ hm) U.lt
      replace U := U.keep hb
      have ltT := T.lt
      have F0 : ∀ y ∈ b0, w.heap.size + 3 ≤ y := fun y hy => Nat.le_trans Sz (f0 y hy)
      replace Sz := Nat.le_trans Sz hb.size
      replace B := B.trans (hb.mono B.size)
      clear hb
      (try dsimp only)
      refine hK.out _ _ ⟨X.at.1, C.at.1⟩ (fun hS => ?_)
      clear hK K
      (try simp only [List.getElem_toArray]); (try simp only [List.getElem_cons_succ]); (try simp only [List.getElem_cons_zero]); (try simp only [Act.put]); (try simp only [List.setIfInBounds_toArray]); (try simp only [List.set_cons_succ]); (try simp only [List.set_cons_zero])
      refine wpAnyH_ready (rs := [3]) (by kernel_rfl) (by simp) ?_
      refine AllReadyH.cons (o := _) rfl (fun K hK => ?_) AllReadyH.nil
      · rw [if_pos (by rfl)]
        go_simp
        replace X := X.alloc (.cells #[.slice none 0 0, .slice none 0 0, .slice none 0 0, .slice none 0 0] 27)
        replace C := C.alloc (.cells #[.slice none 0 0, .slice none 0 0, .slice none 0 0, .slice none 0 0] 27)
        replace Y := Y.alloc (.cells #[.slice none 0 0, .slice none 0 0, .slice none 0 0, .slice none 0 0] 27)
        have nUH : _ ≠ _ := Nat.ne_of_lt U.lt
        replace U := U.alloc (.cells #[.slice none 0 0, .slice none 0 0, .slice none 0 0, .slice none 0 0] 27)
        replace T := T.alloc (.cells #[.slice none 0 0, .slice none 0 0, .slice none 0 0, .slice none 0 0] 27)
        have H := Blk.new w2 27 #[.slice none 0 0, .slice none 0 0, .slice none 0 0, .slice none 0 0]
        have ltH := H.lt
        have nTH : (w2).heap.size ∉ b0 := fun hm => absurd (ltT _ hm) (by simp)
        have gH : w.heap.size + 3 ≤ (w2).heap.size := Sz
        replace Sz : w.heap.size + 3 ≤ (w2.alloc (.cells #[.slice none 0 0, .slice none 0 0, .slice none 0 0, .slice none 0 0] 27)).heap.size := Nat.le_trans Sz (by simp)
        replace B := B.alloc B.size (.cells #[.slice none 0 0, .slice none 0 0, .slice none 0 0, .slice none 0 0] 27)
        refine hK.out _ _ ⟨X.at.1, C.at.1⟩ (fun hS => ?_)
        clear hK K
        (try simp only [List.getElem_toArray]); (try simp only [List.getElem_cons_succ]); (try simp only [List.getElem_cons_zero]); (try simp only [Act.put]); (try simp only [List.setIfInBounds_toArray]); (try simp only [List.set_cons_succ]); (try simp only [List.set_cons_zero])
        refine wpAnyH_take (i := 5) (v := .agg #[.slice q0 xss.length d0, .slice (some ⟨w.heap.size + 1 + 1 + 1, 0, none⟩) 4 4, .int .i64 0, .slice (some ⟨w2.heap.size, 0, none⟩) 4 4, .int .i64 c.xWho, .int .i64 c.xAt, .int .i64 c.xBy, .bool c.xCry, .bool false, .int .i64 0, .int .i64 0, .int .i64 0, .int .i64 0, .int .i64 0, .int .i64 0, .int .i64 0]) rfl (by kernel_rfl) (by kernel_rfl) (by kernel_rfl) (fun _ _ _ h => h) (Or.inl ⟨by rfl, ?_⟩) hS ?_
        · intro w' hSw
          go_simp
        (try simp only [List.getElem_toArray]); (try simp only [List.getElem_cons_succ]); (try simp only [List.getElem_cons_zero]); (try simp only [Act.put]); (try simp only [List.setIfInBounds_toArray]); (try simp only [List.set_cons_succ]); (try simp only [List.set_cons_zero])
        refine wpAnyH_ready (rs := [6]) (by kernel_rfl) (by simp) ?_
        refine AllReadyH.cons (o := _) rfl (fun K hK => ?_) AllReadyH.nil
        refine step_store_blk rfl 33 _ _ rfl (w.heap.size + 1 + 1) _ rfl rfl Y rfl (by kernel_rfl) (by kernel_rfl) ?_
        intro w9 Y9 O9
        refine hK.out _ _ ⟨(X.off O9 (ne_one (by omega))).at.1, (C.off O9 (ne_one (by omega))).at.1⟩ (fun hS => ?_)
        clear hK K
        (try simp only [List.getElem_toArray]); (try simp only [List.getElem_cons_succ]); (try simp only [List.getElem_cons_zero]); (try simp only [Act.put]); (try simp only [List.setIfInBounds_toArray]); (try simp only [List.set_cons_succ]); (try simp only [List.set_cons_zero])
        refine wpAnyH_done (by kernel_rfl) ?_ _
        have no9 : ∀ y, w.heap.size + 3 ≤ y → y ∉ [w.heap.size + 1 + 1] := fun y hy hm => by simp at hm; omega
        have N9 := OwNet.fresh (c := c) (T.off O9 (fun y hy => no9 y (F0 y hy))) (U.off O9 (no9 _ gU)) (H.off O9 (no9 _ gH)) nTU nTH nUH
        have B9 : Below w.heap.size w w9 := B.trans (O9.toBelow B.size (by simp; omega))
        go_wp2
        exact bodyPost_ret (v := .agg _) (results_blk Tryz.results90 rfl Y9 Tryz.underlying33 rfl (by kernel_rfl)) rfl ⟨_, b0, [(((w.alloc (.cells #[.slice p xss.length d] 26)).alloc (.cells #[.int .i64 c.xWho, .int .i64 c.xAt, .int .i64 c.xBy, .bool c.xCry] 29)).alloc (.cells #[.slice none 0 0, .slice none 0 0, .int .i64 0, .slice none 0 0, .int .i64 0, .int .i64 0, .int .i64 0, .bool false, .bool false, .int .i64 0, .int .i64 0, .int .i64 0, .int .i64 0, .int .i64 0, .int .i64 0, .int .i64 0] 33)).drew.heap.size], [w2.heap.size], rfl, by simpa using N9, fun y hy => by have := F0 y hy; omega, fun y hy => by rw [List.mem_singleton] at hy; rw [hy]; omega, fun y hy => by rw [List.mem_singleton] at hy; rw [hy]; omega, B9⟩
    · rw [if_pos (by rfl)]
      go_simp
      replace X := X.alloc (.cells #[.slice none 0 0, .slice none 0 0, .slice none 0 0, .slice none 0 0] 27)
      replace C := C.alloc (.cells #[.slice none 0 0, .slice none 0 0, .slice none 0 0, .slice none 0 0] 27)
      replace Y := Y.alloc (.cells #[.slice none 0 0, .slice none 0 0, .slice none 0 0, .slice none 0 0] 27)
      have nUH : _ ≠ _ := Nat.ne_of_lt U.lt
      replace U := U.alloc (.cells #[.slice none 0 0, .slice none 0 0, .slice none 0 0, .slice none 0 0] 27)
      have H := Blk.new ((((w.alloc (.cells #[.slice p xss.length d] 26)).alloc (.cells #[.int .i64 c.xWho, .int .i64 c.xAt, .int .i64 c.xBy, .bool c.xCry] 29)).alloc (.cells #[.slice none 0 0, .slice none 0 0, .int .i64 0, .slice none 0 0, .int .i64 0, .int .i64 0, .int .i64 0, .bool false, .bool false, .int .i64 0, .int .i64 0, .int .i64 0, .int .i64 0, .int .i64 0, .int .i64 0, .int .i64 0] 33)).drew.alloc (.cells #[.int .i64 0, .int .i64 0, .int .i64 0, .int .i64 0] 2)) 27 #[.slice none 0 0, .slice none 0 0, .slice none 0 0, .slice none 0 0]
      have ltH := H.lt
      have gH : w.heap.size + 3 ≤ (((((w.alloc (.cells #[.slice p xss.length d] 26)).alloc (.cells #[.int .i64 c.xWho, .int .i64 c.xAt, .int .i64 c.xBy, .bool c.xCry] 29)).alloc (.cells #[.slice none 0 0, .slice none 0 0, .int .i64 0, .slice none 0 0, .int .i64 0, .int .i64 0, .int .i64 0, .bool false, .bool false, .int .i64 0, .int .i64 0, .int .i64 0, .int .i64 0, .int .i64 0, .int .i64 0, .int .i64 0] 33)).drew.alloc (.cells #[.int .i64 0, .int .i64 0, .int .i64 0, .int .i64 0] 2))).heap.size := Sz
      replace Sz : w.heap.size + 3 ≤ (((((w.alloc (.cells #[.slice p xss.length d] 26)).alloc (.cells #[.int .i64 c.xWho, .int .i64 c.xAt, .int .i64 c.xBy, .bool c.xCry] 29)).alloc (.cells #[.slice none 0 0, .slice none 0 0, .int .i64 0, .slice none 0 0, .int .i64 0, .int .i64 0, .int .i64 0, .bool false, .bool false, .int .i64 0, .int .i64 0, .int .i64 0, .int .i64 0, .int .i64 0, .int .i64 0, .int .i64 0] 33)).drew.alloc (.cells #[.int .i64 0, .int .i64 0, .int .i64 0, .int .i64 0] 2)).alloc (.cells #[.slice none 0 0, .slice none 0 0, .slice none 0 0, .slice none 0 0] 27)).heap.size := Nat.le_trans Sz (by simp)
      replace B := B.alloc B.size (.cells #[.slice none 0 0, .slice none 0 0, .slice none 0 0, .slice none 0 0] 27)
      refine hK.out _ _ ⟨X.at.1, C.at.1⟩ (fun hS => ?_)
      clear hK K
      (try simp only [List.getElem_toArray]); (try simp only [List.getElem_cons_succ]); (try simp only [List.getElem_cons_zero]); (try simp only [Act.put]); (try simp only [List.setIfInBounds_toArray]); (try simp only [List.set_cons_succ]); (try simp only [List.set_cons_zero])
      refine wpAnyH_ready (rs := [1]) (by kernel_rfl) (by simp) ?_
      refine AllReadyH.cons (o := _) rfl (fun K hK => ?_) AllReadyH.nil
      · rw [if_pos (by rfl)]
        go_simp
        go_at_call 79
        refine (spec_l2Copy _ xss _ ⟨p, d, rfl, hv.below B⟩ hl).mono ?_
        rintro e w2 ⟨u, b0, rfl, T, f0, hb⟩
        obtain ⟨q0, d0, rfl, T⟩ := T
        replace X := X.keep hb
        replace C := C.keep hb
        replace Y := Y.keep hb
        have nTU : _ ∉ b0 := fun hm => Nat.not_lt.2 (f0 _ hm) U.lt
        replace U := U.keep hb
        have nTH : _ ∉ b0 := fun hm => Nat.not_lt.2 (f0 _ hm) H.lt
        replace H := H.keep hb
        have ltT := T.lt
        have F0 : ∀ y ∈ b0, w.heap.size + 3 ≤ y := fun y hy => Nat.le_trans Sz (f0 y hy)
        replace Sz := Nat.le_trans Sz hb.size
        replace B := B.trans (hb.mono B.size)
        clear hb
        (try dsimp only)
        refine hK.out _ _ ⟨X.at.1, C.at.1⟩ (fun hS => ?_)
        clear hK K
        (try simp only [List.getElem_toArray]); (try simp only [List.getElem_cons_succ]); (try simp only [List.getElem_cons_zero]); (try simp only [Act.put]); (try simp only [List.setIfInBounds_toArray]); (try simp only [List.set_cons_succ]); (try simp only [List.set_cons_zero])
        refine wpAnyH_take (i := 5) (v := .agg #[.slice q0 xss.length d0, .slice (some ⟨w.heap.size + 1 + 1 + 1, 0, none⟩) 4 4, .int .i64 0, .slice (some ⟨w.heap.size + 1 + 1 + 1 + 1, 0, none⟩) 4 4, .int .i64 c.xWho, .int .i64 c.xAt, .int .i64 c.xBy, .bool c.xCry, .bool false, .int .i64 0, .int .i64 0, .int .i64 0, .int .i64 0, .int .i64 0, .int .i64 0, .int .i64 0]) rfl (by kernel_rfl) (by kernel_rfl) (by kernel_rfl) (fun _ _ _ h => h) (Or.inl ⟨by rfl, ?_⟩) hS ?_
        · intro w' hSw
          go_simp
        (try simp only [List.getElem_toArray]); (try simp only [List.getElem_cons_succ]); (try simp only [List.getElem_cons_zero]); (try simp only [Act.put]); (try simp only [List.setIfInBounds_toArray]); (try simp only [List.set_cons_succ]); (try simp only [List.set_cons_zero])
        refine wpAnyH_ready (rs := [6]) (by kernel_rfl) (by simp) ?_
        refine AllReadyH.cons (o := _) rfl (fun K hK => ?_) AllReadyH.nil
        refine step_store_blk rfl 33 _ _ rfl (w.heap.size + 1 + 1) _ rfl rfl Y rfl (by kernel_rfl) (by kernel_rfl) ?_
        intro w9 Y9 O9
        refine hK.out _ _ ⟨(X.off O9 (ne_one (by omega))).at.1, (C.off O9 (ne_one (by omega))).at.1⟩ (fun hS => ?_)
        clear hK K
        (try simp only [List.getElem_toArray]); (try simp only [List.getElem_cons_succ]); (try simp only [List.getElem_cons_zero]); (try simp only [Act.put]); (try simp only [List.setIfInBounds_toArray]); (try simp only [List.set_cons_succ]); (try simp only [List.set_cons_zero])
        refine wpAnyH_done (by kernel_rfl) ?_ _
        have no9 : ∀ y, w.heap.size + 3 ≤ y → y ∉ [w.heap.size + 1 + 1] := fun y hy hm => by simp at hm; omega
        have N9 := OwNet.fresh (c := c) (T.off O9 (fun y hy => no9 y (F0 y hy))) (U.off O9 (no9 _ gU)) (H.off O9 (no9 _ gH)) nTU nTH nUH
        have B9 : Below w.heap.size w w9 := B.trans (O9.toBelow B.size (by simp; omega))
        go_wp2
        exact bodyPost_ret (v := .agg _) (results_blk Tryz.results90 rfl Y9 Tryz.underlying33 rfl (by kernel_rfl)) rfl ⟨_, b0, [(((w.alloc (.cells #[.slice p xss.length d] 26)).alloc (.cells #[.int .i64 c.xWho, .int .i64 c.xAt, .int .i64 c.xBy, .bool c.xCry] 29)).alloc (.cells #[.slice none 0 0, .slice none 0 0, .int .i64 0, .slice none 0 0, .int .i64 0, .int .i64 0, .int .i64 0, .bool false, .bool false, .int .i64 0, .int .i64 0, .int .i64 0, .int .i64 0, .int .i64 0, .int .i64 0, .int .i64 0] 33)).drew.heap.size], [((((w.alloc (.cells #[.slice p xss.length d] 26)).alloc (.cells #[.int .i64 c.xWho, .int .i64 c.xAt, .int .i64 c.xBy, .bool c.xCry] 29)).alloc (.cells #[.slice none 0 0, .slice none 0 0, .int .i64 0, .slice none 0 0, .int .i64 0, .int .i64 0, .int .i64 0, .bool false, .bool false, .int .i64 0, .int .i64 0, .int .i64 0, .int .i64 0, .int .i64 0, .int .i64 0, .int .i64 0] 33)).drew.alloc (.cells #[.int .i64 0, .int .i64 0, .int .i64 0, .int .i64 0] 2)).heap.size], rfl, by simpa using N9, fun y hy => by have := F0 y hy; omega, fun y hy => by rw [List.mem_singleton] at hy; rw [hy]; omega, fun y hy => by rw [List.mem_singleton] at hy; rw [hy]; omega, B9⟩
  · rw [if_pos (by rfl)]
    go_simp
    replace X := X.alloc (.cells #[.slice none 0 0, .slice none 0 0, .slice none 0 0, .slice none 0 0] 27)
    replace C := C.alloc (.cells #[.slice none 0 0, .slice none 0 0, .slice none 0 0, .slice none 0 0] 27)
    replace Y := Y.alloc (.cells #[.slice none 0 0, .slice none 0 0, .slice none 0 0, .slice none 0 0] 27)
    have H := Blk.new (((w.alloc (.cells #[.slice p xss.length d] 26)).alloc (.cells #[.int .i64 c.xWho, .int .i64 c.xAt, .int .i64 c.xBy, .bool c.xCry] 29)).alloc (.cells #[.slice none 0 0, .slice none 0 0, .int .i64 0, .slice none 0 0, .int .i64 0, .int .i64 0, .int .i64 0, .bool false, .bool false, .int .i64 0, .int .i64 0, .int .i64 0, .int .i64 0, .int .i64 0, .int .i64 0, .int .i64 0] 33)).drew 27 #[.slice none 0 0, .slice none 0 0, .slice none 0 0, .slice none 0 0]
    have ltH := H.lt
    have gH : w.heap.size + 3 ≤ ((((w.alloc (.cells #[.slice p xss.length d] 26)).alloc (.cells #[.int .i64 c.xWho, .int .i64 c.xAt, .int .i64 c.xBy, .bool c.xCry] 29)).alloc (.cells #[.slice none 0 0, .slice none 0 0, .int .i64 0, .slice none 0 0, .int .i64 0, .int .i64 0, .int .i64 0, .bool false, .bool false, .int .i64 0, .int .i64 0, .int .i64 0, .int .i64 0, .int .i64 0, .int .i64 0, .int .i64 0] 33)).drew).heap.size := Sz
    replace Sz : w.heap.size + 3 ≤ ((((w.alloc (.cells #[.slice p xss.length d] 26)).alloc (.cells #[.int .i64 c.xWho, .int .i64 c.xAt, .int .i64 c.xBy, .bool c.xCry] 29)).alloc (.cells #[.slice none 0 0, .slice none 0 0, .int .i64 0, .slice none 0 0, .int .i64 0, .int .i64 0, .int .i64 0, .bool false, .bool false, .int .i64 0, .int .i64 0, .int .i64 0, .int .i64 0, .int .i64 0, .int .i64 0, .int .i64 0] 33)).drew.alloc (.cells #[.slice none 0 0, .slice none 0 0, .slice none 0 0, .slice none 0 0] 27)).heap.size := Nat.le_trans Sz (by simp)
    replace B := B.alloc B.size (.cells #[.slice none 0 0, .slice none 0 0, .slice none 0 0, .slice none 0 0] 27)
    refine hK.out _ _ ⟨X.at.1, C.at.1⟩ (fun hS => ?_)
    clear hK K
    (try simp only [List.getElem_toArray]); (try simp only [List.getElem_cons_succ]); (try simp only [List.getElem_cons_zero]); (try simp only [Act.put]); (try simp only [List.setIfInBounds_toArray]); (try simp only [List.set_cons_succ]); (try simp only [List.set_cons_zero])
    refine wpAnyH_ready (rs := [1, 2]) (by kernel_rfl) (by simp) ?_
    refine AllReadyH.cons (o := _) rfl (fun K hK => ?_) (AllReadyH.cons (o := _) rfl (fun K hK => ?_) AllReadyH.nil)
    · rw [if_pos (by rfl)]
      go_simp
      go_at_call 79
      refine (spec_l2Copy _ xss _ ⟨p, d, rfl, hv.below B⟩ hl).mono ?_
      rintro e w2 ⟨u, b0, rfl, T, f0, hb⟩
      obtain ⟨q0, d0, rfl, T⟩ := T
      replace X := X.keep hb
      replace C := C.keep hb
      replace Y := Y.keep hb
      have nTH : _ ∉ b0 := fun hm => Nat.not_lt.2 (f0 _ hm) H.lt
      replace H := H.keep hb
      have ltT := T.lt
      have F0 : ∀ y ∈ b0, w.heap.size + 3 ≤ y := fun y hy => Nat.le_trans Sz (f0 y hy)
      replace Sz := Nat.le_trans Sz hb.size
      replace B := B.trans (hb.mono B.size)
      clear hb
      (try dsimp only)
      refine hK.out _ _ ⟨X.at.1, C.at.1⟩ (fun hS => ?_)
      clear hK K
      (try simp only [List.getElem_toArray]); (try simp only [List.getElem_cons_succ]); (try simp only [List.getElem_cons_zero]); (try simp only [Act.put]); (try simp only [List.setIfInBounds_toArray]); (try simp only [List.set_cons_succ]); (try simp only [List.set_cons_zero])
      refine wpAnyH_ready (rs := [2]) (by kernel_rfl) (by simp) ?_
      refine AllReadyH.cons (o := _) rfl (fun K hK => ?_) AllReadyH.nil
      · rw [if_pos (by rfl)]
        go_simp
        replace X := X.alloc (.cells #[.int .i64 0, .int .i64 0, .int .i64 0, .int .i64 0] 2)
        replace C := C.alloc (.cells #[.int .i64 0, .int .i64 0, .int .i64 0, .int .i64 0] 2)
        replace Y := Y.alloc (.cells #[.int .i64 0, .int .i64 0, .int .i64 0, .int .i64 0] 2)
        have nUH : _ ≠ _ := (Nat.ne_of_lt H.lt).symm
        replace H := H.alloc (.cells #[.int .i64 0, .int .i64 0, .int .i64 0, .int .i64 0] 2)
        replace T := T.alloc (.cells #[.int .i64 0, .int .i64 0, .int .i64 0, .int .i64 0] 2)
        have U := Blk.new w2 2 #[.int .i64 0, .int .i64 0, .int .i64 0, .int .i64 0]
        have ltU := U.lt
        have nTU : (w2).heap.size ∉ b0 := fun hm => absurd (ltT _ hm) (by simp)
        have gU : w.heap.size + 3 ≤ (w2).heap.size := Sz
        replace Sz : w.heap.size + 3 ≤ (w2.alloc (.cells #[.int .i64 0, .int .i64 0, .int .i64 0, .int .i64 0] 2)).heap.size := Nat.le_trans Sz (by simp)
        replace B := B.alloc B.size (.cells #[.int .i64 0, .int .i64 0, .int .i64 0, .int .i64 0] 2)
        refine hK.out _ _ ⟨X.at.1, C.at.1⟩ (fun hS => ?_)
        clear hK K
        (try simp only [List.getElem_toArray]); (try simp only [List.getElem_cons_succ]); (try simp only [List.getElem_cons_zero]); (try simp only [Act.put]); (try simp only [List.setIfInBounds_toArray]); (try simp only [List.set_cons_succ]); (try simp only [List.set_cons_zero])
        refine wpAnyH_take (i := 5) (v := .agg #[.slice q0 xss.length d0, .slice (some ⟨w2.heap.size, 0, none⟩) 4 4, .int .i64 0, .slice (some ⟨w.heap.size + 1 + 1 + 1, 0, none⟩) 4 4, .int .i64 c.xWho, .int .i64 c.xAt, .int .i64 c.xBy, .bool c.xCry, .bool false, .int .i64 0, .int .i64 0, .int .i64 0, .int .i64 0, .int .i64 0, .int .i64 0, .int .i64 0]) rfl (by kernel_rfl) (by kernel_rfl) (by kernel_rfl) (fun _ _ _ h => h) (Or.inl ⟨by rfl, ?_⟩) hS ?_
        · intro w' hSw
          go_simp
        (try simp only [List.getElem_toArray]); (try simp only [List.getElem_cons_succ]); (try simp only [List.getElem_cons_zero]); (try simp only [Act.put]); (try simp only [List.setIfInBounds_toArray]); (try simp only [List.set_cons_succ]); (try simp only [List.set_cons_zero])
        refine wpAnyH_ready (rs := [6]) (by kernel_rfl) (by simp) ?_
        refine AllReadyH.cons (o := _) rfl (fun K hK => ?_) AllReadyH.nil
        refine step_store_blk rfl 33 _ _ rfl (w.heap.size + 1 + 1) _ rfl rfl Y rfl (by kernel_rfl) (by kernel_rfl) ?_
        intro w9 Y9 O9
        refine hK.out _ _ ⟨(X.off O9 (ne_one (by omega))).at.1, (C.off O9 (ne_one (by omega))).at.1⟩ (fun hS => ?_)
        clear hK K
        (try simp only [List.getElem_toArray]); (try simp only [List.getElem_cons_succ]); (try simp only [List.getElem_cons_zero]); (try simp only [Act.put]); (try simp only [List.setIfInBounds_toArray]); (try simp only [List.set_cons_succ]); (try simp only [List.set_cons_zero])
        refine wpAnyH_done (by kernel_rfl) ?_ _
        have no9 : ∀ y, w.heap.size + 3 ≤ y → y ∉ [w.heap.size + 1 + 1] := fun y hy hm => by simp at hm; omega
        have N9 := OwNet.fresh (c := c) (T.off O9 (fun y hy => no9 y (F0 y hy))) (U.off O9 (no9 _ gU)) (H.off O9 (no9 _ gH)) nTU nTH nUH
        have B9 : Below w.heap.size w w9 := B.trans (O9.toBelow B.size (by simp; omega))
        go_wp2
        exact bodyPost_ret (v := .agg _) (results_blk Tryz.results90 rfl Y9 Tryz.underlying33 rfl (by kernel_rfl)) rfl ⟨_, b0, [w2.heap.size], [(((w.alloc (.cells #[.slice p xss.length d] 26)).alloc (.cells #[.int .i64 c.xWho, .int .i64 c.xAt, .int .i64 c.xBy, .bool c.xCry] 29)).alloc (.cells #[.slice none 0 0, .slice none 0 0, .int .i64 0, .slice none 0 0, .int .i64 0, .int .i64 0, .int .i64 0, .bool false, .bool false, .int .i64 0, .int .i64 0, .int .i64 0, .int .i64 0, .int .i64 0, .int .i64 0, .int .i64 0] 33)).drew.heap.size], rfl, by simpa using N9, fun y hy => by have := F0 y hy; omega, fun y hy => by rw [List.mem_singleton] at hy; rw [hy]; omega, fun y hy => by rw [List.mem_singleton] at hy; rw [hy]; omega, B9⟩
    · rw [if_pos (by rfl)]
      go_simp
      replace X := X.alloc (.cells #[.int .i64 0, .int .i64 0, .int .i64 0, .int .i64 0] 2)
      replace C := C.alloc (.cells #[.int .i64 0, .int .i64 0, .int .i64 0, .int .i64 0] 2)
      replace Y := Y.alloc (.cells #[.int .i64 0, .int .i64 0, .int .i64 0, .int .i64 0] 2)
      have nUH : _ ≠ _ := (Nat.ne_of_lt H.lt).symm
      replace H := H.alloc (.cells #[.int .i64 0, .int .i64 0, .int .i64 0, .int .i64 0] 2)
      have U := Blk.new ((((w.alloc (.cells #[.slice p xss.length d] 26)).alloc (.cells #[.int .i64 c.xWho, .int .i64 c.xAt, .int .i64 c.xBy, .bool c.xCry] 29)).alloc (.cells #[.slice none 0 0, .slice none 0 0, .int .i64 0, .slice none 0 0, .int .i64 0, .int .i64 0, .int .i64 0, .bool false, .bool false, .int .i64 0, .int .i64 0, .int .i64 0, .int .i64 0, .int .i64 0, .int .i64 0, .int .i64 0] 33)).drew.alloc (.cells #[.slice none 0 0, .slice none 0 0, .slice none 0 0, .slice none 0 0] 27)) 2 #[.int .i64 0, .int .i64 0, .int .i64 0, .int .i64 0]
      have ltU := U.lt
      have gU : w.heap.size + 3 ≤ (((((w.alloc (.cells #[.slice p xss.length d] 26)).alloc (.cells #[.int .i64 c.xWho, .int .i64 c.xAt, .int .i64 c.xBy, .bool c.xCry] 29)).alloc (.cells #[.slice none 0 0, .slice none 0 0, .int .i64 0, .slice none 0 0, .int .i64 0, .int .i64 0, .int .i64 0, .bool false, .bool false, .int .i64 0, .int .i64 0, .int .i64 0, .int .i64 0, .int .i64 0, .int .i64 0, .int .i64 0] 33)).drew.alloc (.cells #[.slice none 0 0, .slice none 0 0, .slice none 0 0, .slice none 0 0] 27))).heap.size := Sz
      replace Sz : w.heap.size + 3 ≤ (((((w.alloc (.cells #[.slice p xss.length d] 26)).alloc (.cells #[.int .i64 c.xWho, .int .i64 c.xAt, .int .i64 c.xBy, .bool c.xCry] 29)).alloc (.cells #[.slice none 0 0, .slice none 0 0, .int .i64 0, .slice none 0 0, .int .i64 0, .int .i64 0, .int .i64 0, .bool false, .bool false, .int .i64 0, .int .i64 0, .int .i64 0, .int .i64 0, .int .i64 0, .int .i64 0, .int .i64 0] 33)).drew.alloc (.cells #[.slice none 0 0, .slice none 0 0, .slice none 0 0, .slice none 0 0] 27)).alloc (.cells #[.int .i64 0, .int .i64 0, .int .i64 0, .int .i64 0] 2)).heap.size := Nat.le_trans Sz (by simp)
      replace B := B.alloc B.size (.cells #[.int .i64 0, .int .i64 0, .int .i64 0, .int .i64 0] 2)
      refine hK.out _ _ ⟨X.at.1, C.at.1⟩ (fun hS => ?_)
      clear hK K
      (try simp only [List.getElem_toArray]); (try simp only [List.getElem_cons_succ]); (try simp only [List.getElem_cons_zero]); (try simp only [Act.put]); (try simp only [List.setIfInBounds_toArray]); (try simp only [List.set_cons_succ]); (try simp only [List.set_cons_zero])
      refine wpAnyH_ready (rs := [1]) (by kernel_rfl) (by simp) ?_
      refine AllReadyH.cons (o := _) rfl (fun K hK => ?_) AllReadyH.nil
      · rw [if_pos (by rfl)]
        go_simp
        go_at_call 79
        refine (spec_l2Copy _ xss _ ⟨p, d, rfl, hv.below B⟩ hl).mono ?_
        rintro e w2 ⟨u, b0, rfl, T, f0, hb⟩
        obtain ⟨q0, d0, rfl, T⟩ := T
        replace X := X.keep hb
        replace C := C.keep hb
        replace Y := Y.keep hb
        have nTH : _ ∉ b0 := fun hm => Nat.not_lt.2 (f0 _ hm) H.lt
        replace H := H.keep hb
        have nTU : _ ∉ b0 := fun hm => Nat.not_lt.2 (f0 _ hm) U.lt
        replace U := U.keep hb
        have ltT := T.lt
        have F0 : ∀ y ∈ b0, w.heap.size + 3 ≤ y := fun y hy => Nat.le_trans Sz (f0 y hy)
        replace Sz := Nat.le_trans Sz hb.size
        replace B := B.trans (hb.mono B.size)
        clear hb
        (try dsimp only)
        refine hK.out _ _ ⟨X.at.1, C.at.1⟩ (fun hS => ?_)
        clear hK K
        (try simp only [List.getElem_toArray]); (try simp only [List.getElem_cons_succ]); (try simp only [List.getElem_cons_zero]); (try simp only [Act.put]); (try simp only [List.setIfInBounds_toArray]); (try simp only [List.set_cons_succ]); (try simp only [List.set_cons_zero])
        refine wpAnyH_take (i := 5) (v := .agg #[.slice q0 xss.length d0, .slice (some ⟨w.heap.size + 1 + 1 + 1 + 1, 0, none⟩) 4 4, .int .i64 0, .slice (some ⟨w.heap.size + 1 + 1 + 1, 0, none⟩) 4 4, .int .i64 c.xWho, .int .i64 c.xAt, .int .i64 c.xBy, .bool c.xCry, .bool false, .int .i64 0, .int .i64 0, .int .i64 0, .int .i64 0, .int .i64 0, .int .i64 0, .int .i64 0]) rfl (by kernel_rfl) (by kernel_rfl) (by kernel_rfl) (fun _ _ _ h => h) (Or.inl ⟨by rfl, ?_⟩) hS ?_
        · intro w' hSw
          go_simp
        (try simp only [List.getElem_toArray]); (try simp only [List.getElem_cons_succ]); (try simp only [List.getElem_cons_zero]); (try simp only [Act.put]); (try simp only [List.setIfInBounds_toArray]); (try simp only [List.set_cons_succ]); (try simp only [List.set_cons_zero])
        refine wpAnyH_ready (rs := [6]) (by kernel_rfl) (by simp) ?_
        refine AllReadyH.cons (o := _) rfl (fun K hK => ?_) AllReadyH.nil
        refine step_store_blk rfl 33 _ _ rfl (w.heap.size + 1 + 1) _ rfl rfl Y rfl (by kernel_rfl) (by kernel_rfl) ?_
        intro w9 Y9 O9
        refine hK.out _ _ ⟨(X.off O9 (ne_one (by omega))).at.1, (C.off O9 (ne_one (by omega))).at.1⟩ (fun hS => ?_)
        clear hK K
        (try simp only [List.getElem_toArray]); (try simp only [List.getElem_cons_succ]); (try simp only [List.getElem_cons_zero]); (try simp only [Act.put]); (try simp only [List.setIfInBounds_toArray]); (try simp only [List.set_cons_succ]); (try simp only [List.set_cons_zero])
        refine wpAnyH_done (by kernel_rfl) ?_ _
        have no9 : ∀ y, w.heap.size + 3 ≤ y → y ∉ [w.heap.size + 1 + 1] := fun y hy hm => by simp at hm; omega
        have N9 := OwNet.fresh (c := c) (T.off O9 (fun y hy => no9 y (F0 y hy))) (U.off O9 (no9 _ gU)) (H.off O9 (no9 _ gH)) nTU nTH nUH
        have B9 : Below w.heap.size w w9 := B.trans (O9.toBelow B.size (by simp; omega))
        go_wp2
        exact bodyPost_ret (v := .agg _) (results_blk Tryz.results90 rfl Y9 Tryz.underlying33 rfl (by kernel_rfl)) rfl ⟨_, b0, [((((w.alloc (.cells #[.slice p xss.length d] 26)).alloc (.cells #[.int .i64 c.xWho, .int .i64 c.xAt, .int .i64 c.xBy, .bool c.xCry] 29)).alloc (.cells #[.slice none 0 0, .slice none 0 0, .int .i64 0, .slice none 0 0, .int .i64 0, .int .i64 0, .int .i64 0, .bool false, .bool false, .int .i64 0, .int .i64 0, .int .i64 0, .int .i64 0, .int .i64 0, .int .i64 0, .int .i64 0] 33)).drew.alloc (.cells #[.slice none 0 0, .slice none 0 0, .slice none 0 0, .slice none 0 0] 27)).heap.size], [(((w.alloc (.cells #[.slice p xss.length d] 26)).alloc (.cells #[.int .i64 c.xWho, .int .i64 c.xAt, .int .i64 c.xBy, .bool c.xCry] 29)).alloc (.cells #[.slice none 0 0, .slice none 0 0, .int .i64 0, .slice none 0 0, .int .i64 0, .int .i64 0, .int .i64 0, .bool false, .bool false, .int .i64 0, .int .i64 0, .int .i64 0, .int .i64 0, .int .i64 0, .int .i64 0, .int .i64 0] 33)).drew.heap.size], rfl, by simpa using N9, fun y hy => by have := F0 y hy; omega, fun y hy => by rw [List.mem_singleton] at hy; rw [hy]; omega, fun y hy => by rw [List.mem_singleton] at hy; rw [hy]; omega, B9⟩
end Go.Proofs.YtepobckhfodngabGreat
