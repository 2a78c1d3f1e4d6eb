/-
  Contracts of chapter 5: who the others are, in the program and in its model.
-/
import Derived.Test.YtepobckhfodngaoGreatJnQ
import Derived.Test.YtepobckhfodngaoGreatApp
namespace Go.Proofs.YtepobckhfodngaoGreat
open Go.ChangeShapes Go.WideShapes Go.ChangeAt Go.RowKit
set_option linter.unusedVariables false

def rest (i j : Int) : Nat → List Int
  | 0 => []
  | n + 1 => rest i j n ++ (if (n : Int) ≠ i ∧ (n : Int) ≠ j then [(n : Int)] else [])
theorem rest_in {i j : Int} {n : Nat} (h : (n : Int) ≠ i ∧ (n : Int) ≠ j) : rest i j (n + 1) = rest i j n ++ [(n : Int)] := by rw [rest, if_pos h]
theorem rest_out {i j : Int} {n : Nat} (h : ¬ ((n : Int) ≠ i ∧ (n : Int) ≠ j)) : rest i j (n + 1) = rest i j n := by rw [rest, if_neg h, List.append_nil]
theorem rest_len (i j : Int) : ∀ n, (rest i j n).length ≤ n
  | 0 => Nat.le_refl _
  | n + 1 => by rw [rest]; have := rest_len i j n; split <;> simp <;> omega
def othF (i j : Int) : Int := (rest i j 4).getD 0 0
def othS (i j : Int) : Int := (rest i j 4).getD 1 0
def Two (i j : Int) : Prop := (0 ≤ i ∧ i ≤ 3) ∧ (0 ≤ j ∧ j ≤ 3) ∧ i ≠ j
instance (i j : Int) : Decidable (Two i j) := by unfold Two; infer_instance
theorem Two.cases {i j : Int} (h : Two i j) {P : Int → Int → Prop} (p : ∀ a b : Fin 4, a ≠ b → P a.val b.val) : P i j := by
  obtain ⟨⟨h0, h1⟩, ⟨h2, h3⟩, h4⟩ := h
  have := p ⟨i.toNat, by omega⟩ ⟨j.toNat, by omega⟩ (fun e => h4 (by have := congrArg Fin.val e; simp at this; omega))
  simpa [Int.toNat_of_nonneg h0, Int.toNat_of_nonneg h2] using this
theorem rest_two {i j : Int} (h : Two i j) : rest i j 4 = [othF i j, othS i j] := h.cases (P := fun i j => rest i j 4 = [othF i j, othS i j]) (by decide)
theorem oth_ok {i j : Int} (h : Two i j) : (0 ≤ othF i j ∧ othF i j < othS i j ∧ othS i j ≤ 3) ∧ othF i j ≠ i ∧ othF i j ≠ j ∧ othS i j ≠ i ∧ othS i j ≠ j := h.cases (P := fun i j => (0 ≤ othF i j ∧ othF i j < othS i j ∧ othS i j ≤ 3) ∧ othF i j ≠ i ∧ othF i j ≠ j ∧ othS i j ≠ i ∧ othS i j ≠ j) (by decide)
theorem oth_mid {i j : Int} (h : Two i j) : ∀ k : Nat, k < 4 → ((k : Int) < othF i j ∨ (othF i j < k ∧ (k : Int) < othS i j)) → ((k : Int) = i ∨ (k : Int) = j) := h.cases (P := fun i j => ∀ k : Nat, k < 4 → ((k : Int) < othF i j ∨ (othF i j < k ∧ (k : Int) < othS i j)) → ((k : Int) = i ∨ (k : Int) = j)) (by decide)
def othersR (i j : Int) : MPairResult := if Two i j then ⟨0, othF i j, othS i j⟩ else ⟨3, 0, 0⟩
theorem othersR_yes {i j : Int} (h : Two i j) : othersR i j = ⟨0, othF i j, othS i j⟩ := if_pos h
theorem othersR_no {i j : Int} (h : ¬ Two i j) : othersR i j = ⟨3, 0, 0⟩ := if_neg h
theorem impl_areTwo (i j : Int) (w : World) : Calls Tryz.prog 158 #[.int .i64 i, .int .i64 j] w fun e w' => e = .returned (.bool (decide (Two i j))) ∧ w = w' := by
  by_cases h1 : 0 ≤ i ∧ i ≤ 3
  · by_cases h2 : 0 ≤ j ∧ j ≤ 3
    · by_cases h3 : i = j
      · have HD : Hid (decide (Two i j) = false) := decide_eq_false (fun h => h.2.2 h3)
        have e3 : (i != j) = false := by simpa using h3
        clear h3
        go_enter Tryz.func158, Tryz.ntmps158
        go_wp2_with fail
        refine (impl_isParty_yes _ _ h1).mono ?_
        rintro e w' ⟨rfl, rfl⟩
        go_wp2_with fail
        refine (impl_isParty_yes _ _ h2).mono ?_
        rintro e w' ⟨rfl, rfl⟩
        go_wp2
        go_ret
        exact ⟨by rw [HD.out]; rfl, rfl⟩
      · have HD : Hid (decide (Two i j) = true) := decide_eq_true ⟨h1, h2, h3⟩
        have e3 : (i != j) = true := by simpa using h3
        clear h3
        go_enter Tryz.func158, Tryz.ntmps158
        go_wp2_with fail
        refine (impl_isParty_yes _ _ h1).mono ?_
        rintro e w' ⟨rfl, rfl⟩
        go_wp2_with fail
        refine (impl_isParty_yes _ _ h2).mono ?_
        rintro e w' ⟨rfl, rfl⟩
        go_wp2
        go_ret
        exact ⟨by rw [HD.out]; rfl, rfl⟩
    · have HD : Hid (decide (Two i j) = false) := decide_eq_false (fun h => h2 h.2.1)
      go_enter Tryz.func158, Tryz.ntmps158
      go_wp2_with fail
      refine (impl_isParty_yes _ _ h1).mono ?_
      rintro e w' ⟨rfl, rfl⟩
      go_wp2_with fail
      refine (impl_isParty_no _ _ h2).mono ?_
      rintro e w' ⟨rfl, rfl⟩
      go_wp2
      go_ret
      exact ⟨by rw [HD.out]; rfl, rfl⟩
  · have HD : Hid (decide (Two i j) = false) := decide_eq_false (fun h => h1 h.1)
    go_enter Tryz.func158, Tryz.ntmps158
    go_wp2_with fail
    refine (impl_isParty_no _ _ h1).mono ?_
    rintro e w' ⟨rfl, rfl⟩
    go_wp2
    go_ret
    exact ⟨by rw [HD.out]; rfl, rfl⟩
set_option maxHeartbeats 2000000 in
theorem spec_l5Others (i j : Int) (w : World) (h : Two i j) : Calls Tryz.prog 108 #[.int .i64 i, .int .i64 j] w fun e w' => e = .returned (.tuple #[.int .i64 (othF i j), .int .i64 (othS i j)]) ∧ w = w' := by
  obtain ⟨⟨o0, o1, o2⟩, o3, o4, o5, o6⟩ := oth_ok h
  have om : Hid (∀ k : Nat, k < 4 → ((k : Int) < othF i j ∨ (othF i j < k ∧ (k : Int) < othS i j)) → ((k : Int) = i ∨ (k : Int) = j)) := oth_mid h
  clear h
  generalize othF i j = F at *
  generalize othS i j = S at *
  have e3 : (F == i) = false := by simpa using o3
  have e4 : (F == j) = false := by simpa using o4
  have e5 : (S == i) = false := by simpa using o5
  have e6 : (S == j) = false := by simpa using o6
  go_enter Tryz.func108, Tryz.ntmps108
  go_wp2
  go_loop [6] (fun v => ∃ k : Nat, v = .int .i64 k ∧ (k : Int) ≤ F) (fun v => 4 - (intOf v).toNat)
  case atStart => exact ⟨0, rfl, o0⟩
  case round =>
    obtain ⟨k, rfl, hk⟩ := hrel
    rcases Int.lt_or_eq_of_le hk with hk | hk
    · have hor := om.out k (by omega) (.inl hk)
      by_cases hi : (k : Int) = i
      · have ei : ((k : Int) == i) = true := by simpa using hi
        clear hi hor
        go_wp2
        go_round
        case rel => exact ⟨k + 1, by go_num, by omega⟩
        case measure => simp [intOf]; omega
      · have ei : ((k : Int) == i) = false := by simpa using hi
        have ej : ((k : Int) == j) = true := by simpa using hor.resolve_left hi
        clear hi hor
        go_wp2
        go_round
        case rel => exact ⟨k + 1, by go_num, by omega⟩
        case measure => simp [intOf]; omega
    · rw [hk]
      have hk4 : k < 4 := by omega
      go_wp2
      go_loop [7] (fun v => ∃ m : Nat, v = .int .i64 m ∧ F < (m : Int) ∧ (m : Int) ≤ S) (fun v => 4 - (intOf v).toNat)
      case atStart => exact ⟨k + 1, by rw [← hk]; go_num, by omega, by omega⟩
      case round =>
        obtain ⟨m, rfl, hm1, hm⟩ := hrel
        rcases Int.lt_or_eq_of_le hm with hm | hm
        · have hor := om.out m (by omega) (.inr ⟨hm1, hm⟩)
          by_cases hi : (m : Int) = i
          · have ei : ((m : Int) == i) = true := by simpa using hi
            clear hi hor
            go_wp2
            go_round
            case rel => exact ⟨m + 1, by go_num, by omega, by omega⟩
            case measure => simp [intOf]; omega
          · have ei : ((m : Int) == i) = false := by simpa using hi
            have ej : ((m : Int) == j) = true := by simpa using hor.resolve_left hi
            clear hi hor
            go_wp2
            go_round
            case rel => exact ⟨m + 1, by go_num, by omega, by omega⟩
            case measure => simp [intOf]; omega
        · rw [hm]
          go_wp2
          exact bodyPost_ret (v := .tuple #[.int .i64 F, .int .i64 S]) (by simp [results, Tryz.results108, go_sem]) rfl ⟨rfl, rfl⟩
theorem mn_lt {a b : Int} (h : a < b) : mn a b = a := by unfold mn; rw [if_pos h]
theorem mx_lt {a b : Int} (h : a < b) : mx a b = b := by unfold mx; rw [if_neg (by omega)]
theorem Own.made0 (w : World) (e : TypeId) (size : Nat) (cs : Array Value) (cap : Nat) (hm : cap ≤ maxLen) (hs : cs.size = cap * size) : Own (w.alloc (.cells cs e)) e size (.slice (some ⟨w.heap.size, 0, none⟩) 0 cap) 0 [] [w.heap.size] :=
  ⟨by simp, .inr ⟨w.heap.size, cap, cs, rfl, rfl, heap_alloc_new w _, Nat.zero_le _, hm, hs, by simp⟩⟩
set_option maxHeartbeats 4000000 in
theorem impl_OthersOf (i j : Int) (w : World) : Calls Tryz.prog 152 #[.int .i64 i, .int .i64 j] w fun e w' => ∃ u, e = .returned u ∧ RdPairResult w' u (othersR i j) ∧ Below w.heap.size w w' := by
  have KT := fun V => impl_areTwo i j V
  by_cases h : Two i j
  · rw [othersR_yes h]
    rw [decide_eq_true h] at KT
    have HR : Hid (rest i j 4 = [othF i j, othS i j]) := rest_two h
    have KP := fun V => impl_pairOf (othF i j) (othS i j) V
    rw [mn_lt (oth_ok h).1.2.1, mx_lt (oth_ok h).1.2.1] at KP
    have hmk : ∀ w, (Instr.makeSlice 25 (.int .i64 0) (.int .i64 4)).run Tryz.prog w = .ok (.slice (some ⟨w.heap.size, 0, none⟩) 0 4) (w.alloc (.cells #[.int .i64 0, .int .i64 0, .int .i64 0, .int .i64 0] 2)) := fun w => by kernel_rfl
    obtain ⟨i1, gi, gz0, gz1, gz2⟩ := info_parts Tryz.infoI
    have Y0 := (Blk.new w 190 #[.int .i64 0, .int .i64 0, .int .i64 0]).alloc (.cells #[.int .i64 0, .int .i64 0, .int .i64 0, .int .i64 0] 2)
    have I0 : IntsT ((w.alloc (.cells #[.int .i64 0, .int .i64 0, .int .i64 0] 190)).alloc (.cells #[.int .i64 0, .int .i64 0, .int .i64 0, .int .i64 0] 2)) (.slice (some ⟨w.heap.size + 1, 0, none⟩) 0 4) [] [w.heap.size + 1] := by
      have := Own.made0 (w.alloc (.cells #[.int .i64 0, .int .i64 0, .int .i64 0] 190)) 2 1 #[.int .i64 0, .int .i64 0, .int .i64 0, .int .i64 0] 4 (by decide) rfl
      unfold IntsT
      simpa using this
    have B0 : Below w.heap.size w ((w.alloc (.cells #[.int .i64 0, .int .i64 0, .int .i64 0] 190)).alloc (.cells #[.int .i64 0, .int .i64 0, .int .i64 0, .int .i64 0] 2)) := (by repeat (first | exact Below.refl _ _ | refine Below.drew ?_ | refine below_drewN ?_ _ | refine Below.setCell ?_ (by first | omega | (simp; done) | (simp; omega)) _ | refine Below.alloc ?_ (by first | omega | (simp; done) | (simp; omega)) _))
    clear h
    generalize othF i j = F at *
    generalize othS i j = S at *
    go_enter Tryz.func152, Tryz.ntmps152
    go_wp2_with fail
    refine (KT _).mono ?_
    rintro e w' ⟨rfl, rfl⟩
    go_wp2
    go_loopw [5, 13] (fun o c wr => ∃ n : Nat, ∃ bs : List Nat, n ≤ 4 ∧ c = .int .i64 n ∧ IntsT wr o (rest i j n) bs ∧ (∀ y ∈ bs, w.heap.size + 1 ≤ y) ∧ Blk wr w.heap.size 190 #[.int .i64 0, .int .i64 0, .int .i64 0] ∧ Below w.heap.size w wr) (fun _ c _ => 4 - (intOf c).toNat)
    case atStart => exact ⟨0, [w.heap.size + 1], Nat.zero_le _, rfl, I0, by simp, Y0, B0⟩
    case round =>
      clear I0 Y0 B0
      obtain ⟨n, bs, hn, rfl, hI, hbs, hY, hB⟩ := hrel
      have hlen := rest_len i j n
      obtain ⟨po, co, rfl⟩ := Own.value hI
      by_cases hlt : n < 4
      · have hi : (n : Int) < 4 := by omega
        by_cases h1 : (n : Int) = i
        · have e1 : ((n : Int) != i) = false := by simpa using h1
          have HN : Hid (rest i j (n + 1) = rest i j n) := rest_out (fun h => h.1 h1)
          clear h1
          go_wp2
          go_roundw
          case rel => exact ⟨n + 1, bs, by omega, by go_num, by rw [HN.out]; exact hI, hbs, hY, hB⟩
          case measure => simp [intOf]; omega
        · have e1 : ((n : Int) != i) = true := by simpa using h1
          by_cases h2 : (n : Int) = j
          · have e2 : ((n : Int) != j) = false := by simpa using h2
            have HN : Hid (rest i j (n + 1) = rest i j n) := rest_out (fun h => h.2 h2)
            clear h1 h2
            go_wp2
            go_roundw
            case rel => exact ⟨n + 1, bs, by omega, by go_num, by rw [HN.out]; exact hI, hbs, hY, hB⟩
            case measure => simp [intOf]; omega
          · have e2 : ((n : Int) != j) = true := by simpa using h2
            have HN : Hid (rest i j (n + 1) = rest i j n ++ [(n : Int)]) := rest_in ⟨h1, h2⟩
            clear h1 h2
            have hI1 : Own wr 2 1 (.slice po (rest i j n).length co) (rest i j n).length ((rest i j n).map (Value.int .i64)) bs := hI
            clear hI
            generalize hxs : rest i j n = xs at *
            have HX : Hid (rest i j n = xs) := hxs
            clear hxs
            go_wp2_with (at_builtin; refine wpList_append_Own rfl _ _ 25 rfl 2 i1 (.int .i64 0) 1 8 Tryz.underlying25 gi gz0 gz1 gz2 rfl (by decide) _ _ _ bs rfl (Own.alloc hI1 _) ⟨wr.heap.size, 0, none⟩ 1 1 [.int .i64 n] rfl rfl ?c1 ?c2 ?c3 ?c4 ?c5 ?_)
            case c1 => exact one_new (Blk.new _ _ _)
            case c2 => intro u hu; simp at hu; subst hu; rfl
            case c3 => omega
            case c4 => unfold maxLen; omega
            case c5 => omega
            intro g c w3 hO3 hoff hg3
            have hI3 : IntsT w3 (.slice (some ⟨g, 0, none⟩) (xs.length + 1) c) (rest i j (n + 1)) [g] := by
              unfold IntsT
              rw [HN.out, List.map_append, List.length_append]
              exact hO3
            have hb3 : ∀ y ∈ [g], w.heap.size + 1 ≤ y := by
              intro y hy
              simp at hy
              subst hy
              rcases hg3 with h | h
              · exact hbs y (by rw [h]; simp)
              · have := hY.lt; (try simp at h); omega
            have hY3 := (hY.alloc (.cells #[.int .i64 n] 2)).off hoff (fun hm => by have := hbs _ hm; omega)
            have hB3 : Below w.heap.size w w3 := (hB.alloc hB.size (.cells #[.int .i64 n] 2)).trans (hoff.toBelow (hB.alloc hB.size (.cells #[.int .i64 n] 2)).size (fun y hy => by have := hbs y hy; omega))
            clear hO3 hoff hI1 hY hB
            go_wp2
            go_roundw
            case rel => exact ⟨n + 1, [g], by omega, by go_num, hI3, hb3, hY3, hB3⟩
            case measure => simp [intOf]; omega
      · obtain rfl : n = 4 := by omega
        rw [HR.out] at hI
        have hI' := hI
        rw [HR.out]
        obtain ⟨g, cap, rfl, eg, -, -⟩ := Own.shape hI (by simp)
        simp only [Value.slice.injEq, true_and] at eg
        obtain ⟨rfl, rfl⟩ := eg
        have c0 : wr.cell? ⟨g, 0, none⟩ = some (.int .i64 F) := by rw [Own.cell hI 0 (by simp)]; rfl
        have c1 : wr.cell? ⟨g, 1, none⟩ = some (.int .i64 S) := by rw [Own.cell hI 1 (by simp)]; rfl
        have hgb := hbs g (by simp)
        have hgl := Own.lt hI g (by simp)
        have HS : Hid (∀ V, Below wr.heap.size wr V → V.cell? ⟨g, 0, none⟩ = some (.int .i64 F) ∧ V.cell? ⟨g, 1, none⟩ = some (.int .i64 S)) := fun V b => ⟨(b.cell (p := ⟨g, 0, none⟩) hgl).trans c0, (b.cell (p := ⟨g, 1, none⟩) hgl).trans c1⟩
        have HO : Hid (∀ V W, Below wr.heap.size wr V → Off [w.heap.size] V W → W.cell? ⟨g, 0, none⟩ = some (.int .i64 F) ∧ W.cell? ⟨g, 1, none⟩ = some (.int .i64 S)) := fun V W b o => ⟨((o.at g (Nat.lt_of_lt_of_le hgl b.size) (by simp; omega)).1 0).trans (HS.out V b).1, ((o.at g (Nat.lt_of_lt_of_le hgl b.size) (by simp; omega)).1 1).trans (HS.out V b).2⟩
        clear hI hI' c0 c1
        go_wp2_with fail
        have hS0 := HS.out wr.drew (Below.refl _ _).drew
        go_region_held3 (fun V => V.cell? ⟨g, 0, none⟩ = some (.int .i64 F) ∧ V.cell? ⟨g, 1, none⟩ = some (.int .i64 S)) (first | (have _k := tk1; first | exact HS.out _ B9 | exact HO.out _ _ B9 ((((Off.refl _ _).setCell _ _ (by simp)).setCell _ _ (by simp)).setCell _ _ (by simp))) | exact hS0) (first | (go_at_call 159; refine (KP _).mono ?_; rintro e w9 ⟨rfl, hb9⟩; have B9 := (Below.refl wr.heap.size wr).drew.trans hb9; have Y9 := hY.drew.keep hb9; have tk1 : Hid True := trivial; have ya := Y9.at.1; have yb := Y9.at.2; have yl := Y9.lt))
        have BB := hB.trans (B9.mono hB.size)
        go_wp2
        exact bodyPost_ret (v := .agg #[.int .i64 0, .int .i64 F, .int .i64 S]) (by simp [results, Tryz.results152, go_sem, ya]) rfl ⟨_, rfl, rfl, (by have zz0 := (BB).size; (try simp at zz0); repeat (first | exact Below.refl _ _ | refine Below.drew ?_ | refine below_drewN ?_ _ | refine Below.setCell ?_ (by first | omega | (simp; done) | (simp; omega)) _ | refine Below.alloc ?_ (by first | omega | (simp; done) | (simp; omega)) _ | refine bcall ?_ BB (by first | omega | (simp; done) | (simp; omega))))⟩
  · rw [othersR_no h]
    rw [decide_eq_false h] at KT
    go_enter Tryz.func152, Tryz.ntmps152
    go_wp2_with fail
    refine (KT _).mono ?_
    rintro e w' ⟨rfl, rfl⟩
    go_wp2
    exact bodyPost_ret (v := .agg #[.int .i64 3, .int .i64 0, .int .i64 0]) (by simp [results, Tryz.results152, go_sem]) rfl ⟨_, rfl, rfl, (by repeat (first | exact Below.refl _ _ | refine Below.drew ?_ | refine below_drewN ?_ _ | refine Below.setCell ?_ (by first | omega | (simp; done) | (simp; omega)) _ | refine Below.alloc ?_ (by first | omega | (simp; done) | (simp; omega)) _))⟩
end Go.Proofs.YtepobckhfodngaoGreat
