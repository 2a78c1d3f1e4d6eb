/-
  Contract of chapter 6 of the program: a number that is given, on a copied net.
-/
import Derived.Test.YtbmemdgeohnpnalGreatSay
import Derived.Test.YtbmemdgeohnpnalGreatJnW
import Derived.Test.YtbmemdgeohnpnalGreatOrn
import Derived.Test.YtbmemdgeohnpnalGreatMirP
import Derived.Deep.RegionWith
namespace Go.Proofs.YtbmemdgeohnpnalGreat
open Go.ChangeShapes Go.WideShapes Go.ChangeAt Go.RowKit
set_option linter.unusedVariables false
/-- Used, when the first n have given a word -/
def inU (us : List Int) (o : Nat) : Nat → List Int
  | 0 => us
  | n + 1 => if n ≠ o then (inU us o n).set n ((inU us o n).getD n 0 + 1) else inU us o n
theorem inU_in {us : List Int} {o n : Nat} (h : n ≠ o) : inU us o (n + 1) = (inU us o n).set n ((inU us o n).getD n 0 + 1) := by rw [inU, if_pos h]
theorem inU_out {us : List Int} {o n : Nat} (h : n = o) : inU us o (n + 1) = inU us o n := by rw [inU, if_neg (by omega)]
theorem inU_len (us : List Int) (o : Nat) : ∀ n, (inU us o n).length = us.length
  | 0 => rfl
  | n + 1 => by
    rw [inU]
    split
    · rw [List.length_set]; exact inU_len us o n
    · exact inU_len us o n
theorem inU_ge (us : List Int) (o : Nat) : ∀ n j, n ≤ j → (inU us o n).getD j 0 = us.getD j 0
  | 0, _, _ => rfl
  | n + 1, j, h => by
    rw [inU]
    split
    · rw [List.getD_eq_getElem?_getD, List.getElem?_set_ne (by omega), ← List.getD_eq_getElem?_getD]; exact inU_ge us o n j (by omega)
    · exact inU_ge us o n j (by omega)
def inW (x : MNet) (n : Nat) : Int := word x.xTape n (x.xUsed.getD n 0) % 256
theorem inW_bd (x : MNet) (n : Nat) : 0 ≤ inW x n ∧ inW x n < 256 := ⟨Int.emod_nonneg _ (by omega), Int.emod_lt_of_pos _ (by omega)⟩
/-- the parts of the others -/
def inP (x : MNet) (o : Nat) : Nat → List Int
  | 0 => [0, 0, 0, 0]
  | n + 1 => if n ≠ o then (inP x o n).set n (inW x n) else inP x o n
theorem inP_in {x : MNet} {o n : Nat} (h : n ≠ o) : inP x o (n + 1) = (inP x o n).set n (inW x n) := by rw [inP, if_pos h]
theorem inP_out {x : MNet} {o n : Nat} (h : n = o) : inP x o (n + 1) = inP x o n := by rw [inP, if_neg (by omega)]
theorem inP_len (x : MNet) (o : Nat) : ∀ n, (inP x o n).length = 4
  | 0 => rfl
  | n + 1 => by
    rw [inP]
    split
    · rw [List.length_set]; exact inP_len x o n
    · exact inP_len x o n
/-- what is left for the owner -/
def inL (x : MNet) (o : Nat) (v : Int) : Nat → Int
  | 0 => v
  | n + 1 => if n ≠ o then (inL x o v n - inW x n) % 256 else inL x o v n
theorem inL_in {x : MNet} {o n : Nat} {v : Int} (h : n ≠ o) : inL x o v (n + 1) = (inL x o v n - inW x n) % 256 := by rw [inL, if_pos h]
theorem inL_out {x : MNet} {o n : Nat} {v : Int} (h : n = o) : inL x o v (n + 1) = inL x o v n := by rw [inL, if_neg (by omega)]
theorem inL_bd {x : MNet} {o : Nat} {v : Int} (hv : 0 ≤ v ∧ v < 256) : ∀ n, 0 ≤ inL x o v n ∧ inL x o v n < 256
  | 0 => hv
  | n + 1 => by
    rw [inL]
    split
    · exact ⟨Int.emod_nonneg _ (by omega), Int.emod_lt_of_pos _ (by omega)⟩
    · exact inL_bd hv n
/-- Sent, what each hears, and what was heard, when the first n were told -/
def inSt (x : MNet) (o : Nat) : Nat → Int
  | 0 => x.xSent
  | n + 1 => if n ≠ o then inSt x o n + 1 else inSt x o n
def inT (x : MNet) (o : Nat) (left : Int) (n : Nat) : Int := tellV x.xCheat 256 (inSt x o n) o left
def inHd (x : MNet) (o : Nat) (left : Int) : Nat → List (List Int)
  | 0 => x.xHeard
  | n + 1 => if n ≠ o then (inHd x o left n).set n ((inHd x o left n).getD n [] ++ [inT x o left n]) else inHd x o left n
def inH (x : MNet) (o : Nat) (left : Int) : Nat → List Int
  | 0 => []
  | n + 1 => if n ≠ o then inH x o left n ++ [inT x o left n] else inH x o left n
theorem in2_in {x : MNet} {o n : Nat} {left : Int} (h : n ≠ o) : inSt x o (n + 1) = inSt x o n + 1 ∧ inHd x o left (n + 1) = (inHd x o left n).set n ((inHd x o left n).getD n [] ++ [inT x o left n]) ∧ inH x o left (n + 1) = inH x o left n ++ [inT x o left n] := by
  rw [inSt, inHd, inH, if_pos h, if_pos h, if_pos h]; exact ⟨rfl, rfl, rfl⟩
theorem in2_out {x : MNet} {o n : Nat} {left : Int} (h : n = o) : inSt x o (n + 1) = inSt x o n ∧ inHd x o left (n + 1) = inHd x o left n ∧ inH x o left (n + 1) = inH x o left n := by
  rw [inSt, inHd, inH, if_neg (by omega), if_neg (by omega), if_neg (by omega)]; exact ⟨rfl, rfl, rfl⟩
theorem inSt_bd (x : MNet) (o : Nat) : ∀ n : Nat, x.xSent ≤ inSt x o n ∧ inSt x o n ≤ x.xSent + n
  | 0 => by simp [inSt]
  | n + 1 => by
    have := inSt_bd x o n
    rw [inSt]
    split <;> omega
theorem inHd_len (x : MNet) (o : Nat) (left : Int) : ∀ n, (inHd x o left n).length = x.xHeard.length
  | 0 => rfl
  | n + 1 => by
    rw [inHd]
    split
    · rw [List.length_set]; exact inHd_len x o left n
    · exact inHd_len x o left n
theorem inHd_ge (x : MNet) (o : Nat) (left : Int) : ∀ n j, n ≤ j → (inHd x o left n).getD j [] = x.xHeard.getD j []
  | 0, _, _ => rfl
  | n + 1, j, h => by
    rw [inHd]
    split
    · rw [List.getD_eq_getElem?_getD, List.getElem?_set_ne (by omega), ← List.getD_eq_getElem?_getD]; exact inHd_ge x o left n j (by omega)
    · exact inHd_ge x o left n j (by omega)
theorem inH_len (x : MNet) (o : Nat) (left : Int) : ∀ n, (inH x o left n).length ≤ n
  | 0 => Nat.le_refl _
  | n + 1 => by
    have := inH_len x o left n
    rw [inH]
    split
    · simp; omega
    · omega
theorem inH_bd {x : MNet} {o : Nat} {left : Int} (h : 0 ≤ left ∧ left < 256) : ∀ n, ∀ y ∈ inH x o left n, 0 ≤ y ∧ y < 256
  | 0 => by simp [inH]
  | n + 1 => by
    intro y hy
    rw [inH] at hy
    split at hy
    · rcases List.mem_append.1 hy with h1 | h1
      · exact inH_bd h n y h1
      · simp at h1; subst h1; exact tellV_in (.inr rfl) h
    · exact inH_bd h n y hy
theorem major_bd {xs : List Int} (h : ∀ y ∈ xs, 0 ≤ y ∧ y < 256) : 0 ≤ (major xs).2 ∧ (major xs).2 < 256 := by
  unfold major
  split
  · rename_i a b c
    split
    · exact h a (by simp)
    · split
      · exact h b (by simp)
      · simp
  · simp
theorem agreeR_bd {xs : List Int} (h : ∀ y ∈ xs, 0 ≤ y ∧ y < 256) : 0 ≤ (agreeR xs).2 ∧ (agreeR xs).2 < 256 := by
  unfold agreeR
  split
  · split
    · exact major_bd h
    · simp
  · simp
theorem inP_bd (x : MNet) (o : Nat) : ∀ n, ∀ y ∈ inP x o n, 0 ≤ y ∧ y < 256
  | 0 => by simp [inP]
  | n + 1 => by
    intro y hy
    rw [inP] at hy
    split at hy
    · rcases List.mem_or_eq_of_mem_set hy with h1 | h1
      · exact inP_bd x o n y h1
      · rw [h1]; exact inW_bd x n
    · exact inP_bd x o n y hy
theorem okV_setI {xs : List Int} {n : Nat} {y : Int} (h : ∀ z ∈ xs, 0 ≤ z ∧ z < 256) (hy : 0 ≤ y ∧ y < 256) : okV 256 (xs.set n y) = true := by
  unfold okV
  rw [List.all_eq_true]
  intro z hz
  have : 0 ≤ z ∧ z < 256 := by
    rcases List.mem_or_eq_of_mem_set hz with h1 | h1
    · exact h z h1
    · rw [h1]; exact hy
  simpa using this
theorem Off.past3 {bs cs : List Nat} {a b c : World} (h : Off bs a b) (k : Off cs b c) (hc : ∀ z ∈ cs, z ∈ bs ∨ a.heap.size ≤ z) : Off bs a c :=
  ⟨k.os.trans h.os, k.tape.trans h.tape, k.output.trans h.output, Nat.le_trans h.size k.size, fun i hi hn => (k.block i (Nat.lt_of_lt_of_le hi h.size) (fun hm => by rcases hc i hm with h1 | h1; (exact hn h1); omega)).trans (h.block i hi hn)⟩
/-- a list of whole numbers as an array's cells -/
def agC (xs : List Int) : Array Value := (xs.map (Value.int .i64)).toArray
theorem agC_set (xs : List Int) (n : Nat) (y : Int) : (agC xs).setIfInBounds n (.int .i64 y) = agC (xs.set n y) := by
  unfold agC; rw [List.setIfInBounds_toArray, ← List.map_set]
theorem agC_get {xs : List Int} {n : Nat} (h : n < xs.length) : (agC xs)[n]? = some (.int .i64 (xs.getD n 0)) := by
  unfold agC; simp [h]
/-- the parts of what is given -/
def inParts (x : MNet) (o : Nat) (v : Int) : List Int := (inP x o 4).set o (agreeR (inH x o (inL x o v 4) 4)).2
def InPost (w w' : World) (e : Ending) (b0 : Nat) (x : MNet) (q0 q1 : Option Addr) (gH d0 d1 d2 : Nat) (bt b1 b2 : List Nat) (o : Nat) (v : Int) : Prop :=
  ∃ p c bm cs, e = .returned (.agg #[.int .i64 256, .slice p 4 c]) ∧ Mat w' (.slice p 4 c) (mirRows (inParts x o v)) bm ∧ (∀ y ∈ bm, w.heap.size ≤ y) ∧ Dj bm cs ∧ Blk w' b0 41 #[.slice q0 x.xTape.length d0, .slice q1 x.xUsed.length d1, .int .i64 (inSt x o 4), .slice (some ⟨gH, 0, none⟩) x.xHeard.length d2, .int .i64 x.xCheat.xWho, .int .i64 x.xCheat.xAt, .int .i64 x.xCheat.xBy, .bool x.xCheat.xCry, .bool x.xQuarrel.xSome, .int .i64 x.xQuarrel.xFrom, .int .i64 x.xQuarrel.xCheck, .int .i64 x.xQuarrel.xTo, .int .i64 x.xQuarrel.xTold, .int .i64 x.xQuarrel.xHeard, .int .i64 x.xQuarrel.xOther, .int .i64 x.xQuarrel.xVowed] ∧ Mat w' (.slice q0 x.xTape.length d0) x.xTape bt ∧ Ints w' (.slice q1 x.xUsed.length d1) (inU x.xUsed o 4) b1 ∧ MatT w' (.slice (some ⟨gH, 0, none⟩) x.xHeard.length d2) (inHd x o (inL x o v 4) 4) cs ∧ (∀ y ∈ cs, y ∈ b2 ∨ w.heap.size ≤ y) ∧ Off (b0 :: (b1 ++ b2)) w w'
theorem fieldMR1' (x y z : Value) (w : World) : (Instr.field 127 (.agg #[x, y, z]) 1).run Tryz.prog w = .ok (.agg #[y, z]) w := by kernel_rfl
theorem take_at (b0 : Nat) (x : MNet) (q0 q1 : Option Addr) (gH d0 d1 d2 : Nat) (b1 : List Nat) (us : List Int) (n : Nat) (w : World) (Z : Blk w b0 41 #[.slice q0 x.xTape.length d0, .slice q1 x.xUsed.length d1, .int .i64 x.xSent, .slice (some ⟨gH, 0, none⟩) x.xHeard.length d2, .int .i64 x.xCheat.xWho, .int .i64 x.xCheat.xAt, .int .i64 x.xCheat.xBy, .bool x.xCheat.xCry, .bool x.xQuarrel.xSome, .int .i64 x.xQuarrel.xFrom, .int .i64 x.xQuarrel.xCheck, .int .i64 x.xQuarrel.xTo, .int .i64 x.xQuarrel.xTold, .int .i64 x.xQuarrel.xHeard, .int .i64 x.xQuarrel.xOther, .int .i64 x.xQuarrel.xVowed]) (T : ReadsM w (.slice q0 x.xTape.length d0) x.xTape) (U : Ints w (.slice q1 x.xUsed.length d1) us b1) (hlen : us.length = x.xUsed.length) (h4 : x.xUsed.length = 4) (ht : x.xTape.length = 4) (hn : n < 4) (hu : 0 ≤ us.getD n 0 ∧ us.getD n 0 ≤ 900000) (hw : 0 ≤ word x.xTape n (us.getD n 0)) (n1 : b0 ∉ b1) :
    Calls Tryz.prog 96 #[.pointer (some ⟨b0, 0, none⟩), .int .i64 n, .int .i64 256] w fun e w' => e = .returned (.int .i64 (word x.xTape n (us.getD n 0) % 256)) ∧ Ints w' (.slice q1 x.xUsed.length d1) (us.set n (us.getD n 0 + 1)) b1 ∧ Off b1 w w' := by
  have e : used { x with xUsed := us } n = us.getD n 0 := by show us.getD (n : Int).toNat 0 = _; rw [Int.toNat_natCast]
  have := impl_take b0 { x with xUsed := us } q0 q1 (some ⟨gH, 0, none⟩) d0 d1 d2 b1 n 256 w (by dsimp only; rw [hlen]; exact Z) T (by dsimp only; rw [hlen]; exact U) (by dsimp only; omega) (by dsimp only; omega) (.inr rfl) (by rw [e]; exact hu) (by rw [e]; exact hw) n1
  rw [e] at this
  dsimp only at this
  rw [hlen] at this
  exact this
theorem say_at (b0 : Nat) (x : MNet) (q0 q1 : Option Addr) (gH d0 d1 d2 : Nat) (b2 : List Nat) (hd : List (List Int)) (st fm : Int) (l : Nat) (a : Int) (w : World) (Z : Blk w b0 41 #[.slice q0 x.xTape.length d0, .slice q1 x.xUsed.length d1, .int .i64 st, .slice (some ⟨gH, 0, none⟩) x.xHeard.length d2, .int .i64 x.xCheat.xWho, .int .i64 x.xCheat.xAt, .int .i64 x.xCheat.xBy, .bool x.xCheat.xCry, .bool x.xQuarrel.xSome, .int .i64 x.xQuarrel.xFrom, .int .i64 x.xQuarrel.xCheck, .int .i64 x.xQuarrel.xTo, .int .i64 x.xQuarrel.xTold, .int .i64 x.xQuarrel.xHeard, .int .i64 x.xQuarrel.xOther, .int .i64 x.xQuarrel.xVowed]) (H : MatT w (.slice (some ⟨gH, 0, none⟩) x.xHeard.length d2) hd b2) (hlen : hd.length = x.xHeard.length) (nb : b0 ∉ b2) (hs : 0 ≤ st ∧ st ≤ 999990) (ha : 0 ≤ a ∧ a < 256) (hy : 0 ≤ x.xCheat.xBy ∧ x.xCheat.xBy ≤ 255) (hl : l < x.xHeard.length) (hrow : (hd.getD l []).length ≤ 1000000000) :
    Calls Tryz.prog 97 #[.pointer (some ⟨b0, 0, none⟩), .int .i64 fm, .int .i64 l, .int .i64 a] w fun e w' => e = .returned (.int .i64 (tellV x.xCheat 256 st fm a)) ∧ ∃ cs, Blk w' b0 41 #[.slice q0 x.xTape.length d0, .slice q1 x.xUsed.length d1, .int .i64 (st + 1), .slice (some ⟨gH, 0, none⟩) x.xHeard.length d2, .int .i64 x.xCheat.xWho, .int .i64 x.xCheat.xAt, .int .i64 x.xCheat.xBy, .bool x.xCheat.xCry, .bool x.xQuarrel.xSome, .int .i64 x.xQuarrel.xFrom, .int .i64 x.xQuarrel.xCheck, .int .i64 x.xQuarrel.xTo, .int .i64 x.xQuarrel.xTold, .int .i64 x.xQuarrel.xHeard, .int .i64 x.xQuarrel.xOther, .int .i64 x.xQuarrel.xVowed] ∧ MatT w' (.slice (some ⟨gH, 0, none⟩) x.xHeard.length d2) (hd.set l (hd.getD l [] ++ [tellV x.xCheat 256 st fm a])) cs ∧ (∀ y ∈ cs, y ∈ b2 ∨ w.heap.size ≤ y) ∧ Off (b0 :: b2) w w' := by
  have := impl_say b0 { x with xSent := st, xHeard := hd } q0 q1 gH d0 d1 d2 b2 fm l a w (by dsimp only; rw [hlen]; exact Z) (by dsimp only; rw [hlen]; exact H) nb hs ha hy (by dsimp only; omega) hrow
  unfold SayPost at this
  dsimp only at this
  rw [hlen] at this
  exact this
set_option maxHeartbeats 16000000 in
set_option maxRecDepth 100000 in
theorem impl_input (b0 : Nat) (x : MNet) (q0 q1 : Option Addr) (gH d0 d1 d2 : Nat) (bt b1 b2 : List Nat) (o : Nat) (v : Int) (w : World) (Z : Blk w b0 41 #[.slice q0 x.xTape.length d0, .slice q1 x.xUsed.length d1, .int .i64 x.xSent, .slice (some ⟨gH, 0, none⟩) x.xHeard.length d2, .int .i64 x.xCheat.xWho, .int .i64 x.xCheat.xAt, .int .i64 x.xCheat.xBy, .bool x.xCheat.xCry, .bool x.xQuarrel.xSome, .int .i64 x.xQuarrel.xFrom, .int .i64 x.xQuarrel.xCheck, .int .i64 x.xQuarrel.xTo, .int .i64 x.xQuarrel.xTold, .int .i64 x.xQuarrel.xHeard, .int .i64 x.xQuarrel.xOther, .int .i64 x.xQuarrel.xVowed]) (T : Mat w (.slice q0 x.xTape.length d0) x.xTape bt) (U : Ints w (.slice q1 x.xUsed.length d1) x.xUsed b1) (H : MatT w (.slice (some ⟨gH, 0, none⟩) x.xHeard.length d2) x.xHeard b2)
    (n0 : b0 ∉ bt) (n1 : b0 ∉ b1) (n2 : b0 ∉ b2) (e01 : Dj bt b1) (e02 : Dj bt b2) (e12 : Dj b1 b2) (ho : o < 4) (hv : 0 ≤ v ∧ v < 256) (h4 : x.xTape.length = 4 ∧ x.xUsed.length = 4 ∧ x.xHeard.length = 4) (hu : ∀ j, j < 4 → 0 ≤ x.xUsed.getD j 0 ∧ x.xUsed.getD j 0 ≤ 900000) (hw : ∀ l k : Int, 0 ≤ word x.xTape l k) (hs : 0 ≤ x.xSent ∧ x.xSent ≤ 900000) (hy : 0 ≤ x.xCheat.xBy ∧ x.xCheat.xBy ≤ 255) (hr : ∀ j, (x.xHeard.getD j []).length ≤ 500000000) :
    Calls Tryz.prog 64 #[.pointer (some ⟨b0, 0, none⟩), .int .i64 o, .int .i64 v] w fun e w' => InPost w w' e b0 x q0 q1 gH d0 d1 d2 bt b1 b2 o v := by
  have HT4 : Hid (x.xTape.length = 4 ∧ x.xUsed.length = 4 ∧ x.xHeard.length = 4) := h4
  unfold InPost inParts
  have HU : Hid (∀ j, j < 4 → 0 ≤ x.xUsed.getD j 0 ∧ x.xUsed.getD j 0 ≤ 900000) := hu
  have HWD : Hid (∀ l k : Int, 0 ≤ word x.xTape l k) := hw
  have HRW : Hid (∀ j, (x.xHeard.getD j []).length ≤ 500000000) := hr
  clear h4 hu hw hr
  have lt0 := Z.lt
  have ltt := T.lt
  have lt1 := U.lt
  have lt2 := H.lt
  obtain ⟨W0, eW0⟩ : ∃ y, y = (w.alloc (.cells #[.int .i64 0, .slice none 0 0] 36)).alloc (.cells #[.int .i64 0, .int .i64 0, .int .i64 0, .int .i64 0] 85) := ⟨_, rfl⟩
  have B0 : Below w.heap.size w W0 := by rw [eW0]; exact (by repeat (first | exact Below.refl _ _ | refine Below.drew ?_ | refine below_drewN ?_ _ | refine Below.setCell ?_ (by first | omega | (simp; done) | (simp; omega)) _ | refine Below.alloc ?_ (by first | omega | (simp; done) | (simp; omega)) _))
  have R0 : Blk W0 w.heap.size 36 #[.int .i64 0, .slice none 0 0] := by rw [eW0]; exact (Blk.new w _ _).alloc _
  have P0 : Blk W0 (w.heap.size + 1) 85 (agC (inP x o 0)) := by
    rw [eW0]
    have := Blk.new (w.alloc (.cells #[.int .i64 0, .slice none 0 0] 36)) 85 #[.int .i64 0, .int .i64 0, .int .i64 0, .int .i64 0]
    simpa [agC, inP] using this
  have KE := fun V => impl_elementOf 256 v V (by omega) (by omega) hv.1 (by omega)
  go_enter Tryz.func64, Tryz.ntmps64
  go_wp2_with fail
  rw [← eW0]
  refine (KE _).mono ?_
  rintro e w1 ⟨rfl, hb1⟩
  have B1 := B0.trans (hb1.mono B0.size)
  replace R0 := R0.keep hb1
  replace P0 := P0.keep hb1
  clear B0 KE hb1 eW0
  have E0 := Blk.new w1 117 #[.int .u16 256, .int .u16 v]
  have zP : w.heap.size + 1 < w1.heap.size := P0.lt
  replace R0 := R0.alloc (.cells #[.int .u16 256, .int .u16 v] 117)
  replace P0 := P0.alloc (.cells #[.int .u16 256, .int .u16 v] 117)
  replace B1 := B1.alloc B1.size (.cells #[.int .u16 256, .int .u16 v] 117)
  go_wp2_with fail
  have O1 : Off (b0 :: (b1 ++ b2)) w (w1.alloc (.cells #[.int .u16 256, .int .u16 v] 117)) := Off.ofBelow B1
  replace Z := Z.keep B1
  replace T := T.keep B1
  replace U := U.keep B1
  replace H := H.keep B1
  generalize w1.alloc (.cells #[.int .u16 256, .int .u16 v] 117) = W1 at *
  generalize w1.heap.size = bE at *
  clear B1
  go_loopw [14] (fun c wr => ∃ n : Nat, n ≤ 4 ∧ c = .int .i64 n ∧ Blk wr b0 41 #[.slice q0 x.xTape.length d0, .slice q1 x.xUsed.length d1, .int .i64 x.xSent, .slice (some ⟨gH, 0, none⟩) x.xHeard.length d2, .int .i64 x.xCheat.xWho, .int .i64 x.xCheat.xAt, .int .i64 x.xCheat.xBy, .bool x.xCheat.xCry, .bool x.xQuarrel.xSome, .int .i64 x.xQuarrel.xFrom, .int .i64 x.xQuarrel.xCheck, .int .i64 x.xQuarrel.xTo, .int .i64 x.xQuarrel.xTold, .int .i64 x.xQuarrel.xHeard, .int .i64 x.xQuarrel.xOther, .int .i64 x.xQuarrel.xVowed] ∧ Blk wr w.heap.size 36 #[.int .i64 0, .slice none 0 0] ∧ Blk wr (w.heap.size + 1) 85 (agC (inP x o n)) ∧ Blk wr bE 117 #[.int .u16 256, .int .u16 (inL x o v n)] ∧ Mat wr (.slice q0 x.xTape.length d0) x.xTape bt ∧ Ints wr (.slice q1 x.xUsed.length d1) (inU x.xUsed o n) b1 ∧ MatT wr (.slice (some ⟨gH, 0, none⟩) x.xHeard.length d2) x.xHeard b2 ∧ Off (b0 :: (b1 ++ b2)) w wr) (fun c _ => 4 - (intOf c).toNat)
  case atStart => exact ⟨0, Nat.zero_le _, rfl, Z, R0, P0, E0, T, U, H, O1⟩
  case round =>
    clear Z R0 P0 E0 T U H O1
    obtain ⟨n, hn, rfl, Z, R0, P0, E0, T, U, H, O1⟩ := hrel
    by_cases hlt : n < 4
    · have hi : (n : Int) < 4 := by omega
      have hi0 : (0 : Int) ≤ (n : Int) := by omega
      by_cases h1 : n = o
      · have HP := inP_out (x := x) h1
        have HL := inL_out (x := x) (v := v) h1
        have HUU := inU_out (us := x.xUsed) h1
        have HH : Hid (inP x o (n + 1) = inP x o n ∧ inL x o v (n + 1) = inL x o v n ∧ inU x.xUsed o (n + 1) = inU x.xUsed o n) := ⟨HP, HL, HUU⟩
        have e1 : ((n : Int) != (o : Int)) = false := by simpa using (show (n : Int) = (o : Int) by omega)
        clear h1 HP HL HUU
        go_wp2
        go_roundw
        case rel => exact ⟨n + 1, by omega, by go_num, Z, R0, by rw [HH.out.1]; exact P0, by rw [HH.out.2.1]; exact E0, T, by rw [HH.out.2.2]; exact U, H, O1⟩
        case measure => simp [intOf]; omega
      · have HH : Hid (inP x o (n + 1) = (inP x o n).set n (inW x n) ∧ inL x o v (n + 1) = (inL x o v n - inW x n) % 256 ∧ inU x.xUsed o (n + 1) = (inU x.xUsed o n).set n ((inU x.xUsed o n).getD n 0 + 1)) := ⟨inP_in h1, inL_in h1, inU_in h1⟩
        have e1 : ((n : Int) != (o : Int)) = true := by simpa using (show ¬ (n : Int) = (o : Int) by omega)
        have eU := inU_ge x.xUsed o n n (Nat.le_refl _)
        have KT := take_at b0 x q0 q1 gH d0 d1 d2 b1 (inU x.xUsed o n) n wr Z T.reads U (inU_len _ _ _) HT4.out.2.1 HT4.out.1 hlt (by rw [eU]; exact HU.out n hlt) (HWD.out _ _) n1
        rw [show word x.xTape n ((inU x.xUsed o n).getD n 0) % 256 = inW x n by rw [eU]; rfl] at KT
        have hwb := inW_bd x n
        have hlb := inL_bd (x := x) (o := o) hv n
        have HPL : Hid ((inP x o n).length = 4) := inP_len x o n
        clear h1 eU
        generalize inW x n = y at *
        go_wp2_with fail
        refine KT.mono ?_
        rintro e w2 ⟨rfl, U2, o2⟩
        have Z2 := Z.off o2 n1
        have R2 := R0.off o2 (fun h => by have := lt1 _ h; omega)
        have P2 := P0.off o2 (fun h => by have := lt1 _ h; omega)
        have E2 := E0.off o2 (fun h => by have := lt1 _ h; omega)
        have T2 := T.off o2 e01
        have H2 := H.off o2 e12.symm
        have O2 := O1.trans (o2.mono (fun y hy => by simp [hy]))
        clear Z R0 P0 E0 T U H O1 KT o2
        have pc : w2.cell? ⟨w.heap.size + 1, n, none⟩ = some (.int .i64 ((inP x o n).getD n 0)) := (P2.at.1 n).trans (agC_get (by rw [HPL.out]; exact hlt))
        have pf := P2.at.2 n
        have pl := P2.lt
        go_wp2_with fail
        clear pc pf pl
        have OP : Off [w.heap.size + 1] w2 (w2.setCell ⟨w.heap.size + 1, n, none⟩ (.int .i64 y)) := (Off.refl _ _).setCell _ _ (by simp)
        have P3 := P2.set n (.int .i64 y)
        rw [agC_set, ← HH.out.1] at P3
        have Z3 := Z2.off OP (by simp; omega)
        have R3 := R2.off OP (by simp)
        have E3 := E2.off OP (by simp; omega)
        have T3 := T2.off OP (fun g hg hm => by have := ltt g hg; simp at hm; omega)
        have U3 := U2.off OP (fun g hg hm => by have := lt1 g hg; simp at hm; omega)
        have H3 := H2.off OP (fun g hg hm => by have := lt2 g hg; simp at hm; omega)
        have O3 : Off (b0 :: (b1 ++ b2)) w (w2.setCell ⟨w.heap.size + 1, n, none⟩ (.int .i64 y)) := O2.setCell _ _ (.inr (by simp))
        clear Z2 R2 P2 E2 T2 U2 H2 O2 OP
        generalize w2.setCell ⟨w.heap.size + 1, n, none⟩ (.int .i64 y) = w3 at *
        have pc : w3.cell? ⟨w.heap.size + 1, n, none⟩ = some (.int .i64 y) := by
          have h := (P3.at.1 n).trans (agC_get (by rw [inP_len]; exact hlt))
          rw [HH.out.1] at h
          rw [h, List.getD_eq_getElem?_getD, List.getElem?_set_self (by rw [HPL.out]; exact hlt)]
          rfl
        have pl := P3.lt
        have ea := E3.at.1
        have eb := E3.at.2
        have el := E3.lt
        have Ed := E3.drew
        have Bd : Below w3.heap.size w3 w3.drew := (Below.refl _ _).drew
        have tok : True := trivial
        obtain ⟨y1, y2⟩ := hwb
        have y3 : y ≤ 256 := by omega
        obtain ⟨s1, s2⟩ := hlb
        generalize hsl : inL x o v n = s at *
        clear hsl
        go_region_with (first | (go_at_call 95; have _t := tok; refine (impl_elementOf 256 y _ (by decide) (by decide) y1 y3).mono ?_; rintro e w7 ⟨rfl, hb7⟩; have E7 := Ed.keep hb7; have B7 := Bd.trans (hb7.mono Bd.size); have e7 := E7.at.1; clear tok) | (go_at_call 89; refine (impl_minus 256 s y _ (by decide) (by decide) s1 s2 y1 y2).mono ?_; rintro e w8 ⟨rfl, hb8⟩; have E8 := E7.keep hb8; have B8 := B7.trans (hb8.mono B7.size); have e8 := E8.at.1; have f8 := E8.at.2))
        all_goals
          have E9 := (E8.set 0 (.int .u16 256)).set 1 (.int .u16 ((s - y) % 256))
          have OE : Off [bE] w8 ((w8.setCell ⟨bE, 0, none⟩ (.int .u16 256)).setCell ⟨bE, 1, none⟩ (.int .u16 ((s - y) % 256))) := ((Off.refl _ _).setCell _ _ (by simp)).setCell _ _ (by simp)
          have Z9 := (Z3.keep B8).off OE (by simp; omega)
          have R9 := (R3.keep B8).off OE (by simp; omega)
          have P9 := (P3.keep B8).off OE (by simp; omega)
          have T9 := (T3.keep B8).off OE (fun g hg hm => by have := ltt g hg; simp at hm; omega)
          have U9 := (U3.keep B8).off OE (fun g hg hm => by have := lt1 g hg; simp at hm; omega)
          have H9 := (H3.keep B8).off OE (fun g hg hm => by have := lt2 g hg; simp at hm; omega)
          have O9 : Off (b0 :: (b1 ++ b2)) w ((w8.setCell ⟨bE, 0, none⟩ (.int .u16 256)).setCell ⟨bE, 1, none⟩ (.int .u16 ((s - y) % 256))) := ((O3.trans (Off.ofBelow B8)).setCell _ _ (.inr (by simp; omega))).setCell _ _ (.inr (by simp; omega))
          clear e8 f8 e7 E7 E8 B7 Ed Bd ea eb hb7 hb8 OE B8 Z3 R3 P3 E3 T3 U3 H3 O3 pc
          go_wp2
          go_roundw
          case rel => exact ⟨n + 1, by omega, by go_num, Z9, R9, P9, by rw [HH.out.2.1]; simpa using E9, T9, by rw [HH.out.2.2]; exact U9, H9, O9⟩
          case measure => simp [intOf]; omega
    · obtain rfl : n = 4 := by omega
      rw [show ((4 : Nat) : Int) = 4 from rfl]
      have hlb := inL_bd (x := x) (o := o) hv 4
      generalize hlf : inL x o v 4 = left at *
      have HLF : Hid (inL x o v 4 = left) := hlf
      clear hlf
      have hmk : ∀ w, (Instr.makeSlice 25 (.int .i64 0) (.int .i64 3)).run Tryz.prog w = .ok (.slice (some ⟨w.heap.size, 0, none⟩) 0 3) (w.alloc (.cells #[.int .i64 0, .int .i64 0, .int .i64 0] 2)) := fun w => by kernel_rfl
      obtain ⟨i1, gi, gz0, gz1, gz2⟩ := info_parts Tryz.infoI
      have nf := fieldIR_1
      have I0 : IntsT (wr.alloc (.cells #[.int .i64 0, .int .i64 0, .int .i64 0] 2)) (.slice (some ⟨wr.heap.size, 0, none⟩) 0 3) [] [wr.heap.size] := Own.made0' wr 2 1 #[.int .i64 0, .int .i64 0, .int .i64 0] 3 (by decide) rfl
      have elr := E0.lt
      have hB : Below wr.heap.size wr (wr.alloc (.cells #[.int .i64 0, .int .i64 0, .int .i64 0] 2)) := (Below.refl _ _).alloc (Nat.le_refl _) _
      have HCS0 : ∀ y ∈ b2, y ∈ b2 ∨ bE < y := fun y hy => .inl hy
      have HD0 : Dj [wr.heap.size] b2 := fun g hg hm => by simp at hg; have := H.lt g hm; omega
      replace Z := Z.keep hB
      replace R0 := R0.keep hB
      replace P0 := P0.keep hB
      replace E0 := E0.keep hB
      replace T := T.keep hB
      replace U := U.keep hB
      replace H := H.keep hB
      have O2 := O1.trans (Off.ofBelow hB)
      clear O1 hB
      go_wp2
      go_loopw [10, 33] (fun s c wr => ∃ n : Nat, ∃ bs cs : List Nat, n ≤ 4 ∧ c = .int .i64 n ∧ IntsT wr s (inH x o left n) bs ∧ (∀ y ∈ bs, bE < y) ∧ Blk wr b0 41 #[.slice q0 x.xTape.length d0, .slice q1 x.xUsed.length d1, .int .i64 (inSt x o n), .slice (some ⟨gH, 0, none⟩) x.xHeard.length d2, .int .i64 x.xCheat.xWho, .int .i64 x.xCheat.xAt, .int .i64 x.xCheat.xBy, .bool x.xCheat.xCry, .bool x.xQuarrel.xSome, .int .i64 x.xQuarrel.xFrom, .int .i64 x.xQuarrel.xCheck, .int .i64 x.xQuarrel.xTo, .int .i64 x.xQuarrel.xTold, .int .i64 x.xQuarrel.xHeard, .int .i64 x.xQuarrel.xOther, .int .i64 x.xQuarrel.xVowed] ∧ Blk wr w.heap.size 36 #[.int .i64 0, .slice none 0 0] ∧ Blk wr (w.heap.size + 1) 85 (agC (inP x o 4)) ∧ Blk wr bE 117 #[.int .u16 256, .int .u16 left] ∧ Mat wr (.slice q0 x.xTape.length d0) x.xTape bt ∧ Ints wr (.slice q1 x.xUsed.length d1) (inU x.xUsed o 4) b1 ∧ MatT wr (.slice (some ⟨gH, 0, none⟩) x.xHeard.length d2) (inHd x o left n) cs ∧ (∀ y ∈ cs, y ∈ b2 ∨ bE < y) ∧ Dj bs cs ∧ Off (b0 :: (b1 ++ b2)) w wr) (fun _ c _ => 4 - (intOf c).toNat)
      case atStart => exact ⟨0, [wr.heap.size], b2, Nat.zero_le _, rfl, I0, by simp; omega, Z, R0, P0, E0, T, U, H, HCS0, HD0, O2⟩
      case round =>
        clear I0 Z R0 P0 E0 T U H HCS0 HD0 O2 elr
        obtain ⟨n, bs, cs, hn, rfl, I, hbs, Z, R0, P0, E0, T, U, H, hcs, hdj, O2⟩ := hrel
        have hlen := inH_len x o left n
        obtain ⟨po, co, rfl⟩ := Own.value I
        by_cases hlt : n < 4
        · have hi : (n : Int) < 4 := by omega
          by_cases h1 : n = o
          · have HH : Hid _ := in2_out (x := x) (left := left) h1
            have e1 : ((n : Int) != (o : Int)) = false := by simpa using (show (n : Int) = (o : Int) by omega)
            clear h1
            go_wp2
            go_roundw
            case rel => exact ⟨n + 1, bs, cs, by omega, by go_num, by rw [HH.out.2.2]; exact I, hbs, by rw [HH.out.1]; exact Z, R0, P0, E0, T, U, by rw [HH.out.2.1]; exact H, hcs, hdj, O2⟩
            case measure => simp [intOf]; omega
          · have HH : Hid _ := in2_in (x := x) (left := left) h1
            have e1 : ((n : Int) != (o : Int)) = true := by simpa using (show ¬ (n : Int) = (o : Int) by omega)
            have hsb := inSt_bd x o n
            have nb : b0 ∉ cs := fun h => by rcases hcs b0 h with h | h; (exact n2 h); omega
            have KR := fun V => impl_result 256 left V hlb.1 (by omega)
            have hrw : ((inHd x o left n).getD n []).length ≤ 1000000000 := by rw [inHd_ge x o left n n (Nat.le_refl _)]; have := HRW.out n; omega
            have ea := E0.at.1
            have el := E0.lt
            clear h1
            go_wp2_with fail
            clear ea el
            refine (KR _).mono ?_
            rintro e w2 ⟨rfl, hb2⟩
            have ltI : ∀ y ∈ bs, y < w2.heap.size := fun y hy => Nat.lt_of_lt_of_le (Own.lt I y hy) hb2.size
            replace I := Own.keep I hb2
            replace Z := Z.keep hb2
            replace R0 := R0.keep hb2
            replace P0 := P0.keep hb2
            replace E0 := E0.keep hb2
            replace T := T.keep hb2
            replace U := U.keep hb2
            replace H := H.keep hb2
            replace O2 := O2.trans (Off.ofBelow hb2)
            clear hb2 KR
            have KS := say_at b0 x q0 q1 gH d0 d1 d2 cs (inHd x o left n) (inSt x o n) o n left w2 Z H (inHd_len x o left n) nb (by omega) hlb hy (by rw [HT4.out.2.2]; exact hlt) hrw
            rw [show tellV x.xCheat 256 (inSt x o n) o left = inT x o left n from rfl] at KS
            have eE := E0.lt
            generalize inT x o left n = u at *
            go_wp2_with fail
            refine KS.mono ?_
            rintro e w3 ⟨rfl, cs3, Z3, H3, hcs3, o3⟩
            have R3 := R0.off o3 (fun h => by simp at h; rcases h with h | h; omega; (rcases hcs _ h with h | h; (have := lt2 _ h; omega); omega))
            have P3 := P0.off o3 (fun h => by simp at h; rcases h with h | h; omega; (rcases hcs _ h with h | h; (have := lt2 _ h; omega); omega))
            have E3 := E0.off o3 (fun h => by simp at h; rcases h with h | h; omega; (rcases hcs _ h with h | h; (have := lt2 _ h; omega); omega))
            have T3 := T.off o3 (fun g hg h => by simp at h; rcases h with h | h; (exact n0 (h ▸ hg)); (rcases hcs _ h with h | h; (exact e02 g hg h); (have := ltt g hg; omega)))
            have U3 := U.off o3 (fun g hg h => by simp at h; rcases h with h | h; (exact n1 (h ▸ hg)); (rcases hcs _ h with h | h; (exact e12 g hg h); (have := lt1 g hg; omega)))
            have I3 := Own.off I o3 (fun g hg h => by simp at h; rcases h with h | h; (have := hbs g hg; omega); (exact hdj g hg h))
            have O3 := O2.past3 o3 (fun z hz => by simp at hz ⊢; rcases hz with h | h; (exact .inl (.inl h)); (rcases hcs _ h with h | h; (exact .inl (.inr (.inr h))); (exact .inr (by omega))))
            have hcs4 : ∀ y ∈ cs3, y ∈ b2 ∨ bE < y := fun y hy => by rcases hcs3 y hy with h | h; (exact hcs y h); (exact .inr (by omega))
            have hdj3 : Dj bs cs3 := fun g hg h => by rcases hcs3 g h with h | h; (exact hdj g hg h); (have := ltI g hg; omega)
            have z3 := o3.size
            clear Z R0 P0 E0 T U H O2 I o3 hcs3 hdj hcs KS nb
            have hI1 : Own w3 2 1 (.slice po (inH x o left n).length co) (inH x o left n).length ((inH x o left n).map (Value.int .i64)) bs := I3
            clear I3
            generalize hxs : inH x o left n = xs at *
            have HX : Hid (inH x o left n = xs) := hxs
            clear hxs
            go_wp2_with (at_builtin; refine wpList_append_Own rfl _ _ 25 rfl 2 i1 (.int .i64 0) 1 8 Tryz.underlying25 gi gz0 gz1 gz2 rfl (by decide) _ _ _ bs rfl (Own.alloc hI1 _) ⟨w3.heap.size, 0, none⟩ 1 1 [.int .i64 u] rfl rfl ?c1 ?c2 ?c3 ?c4 ?c5 ?_)
            case c1 => exact one_new (Blk.new _ _ _)
            case c2 => intro u hu; simp at hu; subst hu; rfl
            case c3 => omega
            case c4 => unfold maxLen; omega
            case c5 => omega
            intro g cap w4 hO4 hoff hg4
            have hA : Below w3.heap.size w3 (w3.alloc (.cells #[.int .i64 u] 2)) := (Below.refl _ _).alloc (Nat.le_refl _) _
            have I4 : IntsT w4 (.slice (some ⟨g, 0, none⟩) (xs.length + 1) cap) (inH x o left (n + 1)) [g] := by
              unfold IntsT
              rw [HH.out.2.2, List.map_append, List.length_append]
              exact hO4
            have hb4 : ∀ y ∈ [g], bE < y := by
              intro y hy
              simp at hy
              subst hy
              rcases hg4 with h | h
              · exact hbs _ (by rw [h]; simp)
              · (try simp at h); omega
            have hdj4 : Dj [g] cs3 := by
              intro y hy hm
              simp at hy
              subst hy
              rcases hg4 with h | h
              · exact hdj3 _ (by rw [h]; simp) hm
              · have := H3.lt _ hm; (try simp at h); omega
            have Z4 := (Z3.keep hA).off hoff (fun h => by have := hbs _ h; omega)
            have R4 := (R3.keep hA).off hoff (fun h => by have := hbs _ h; omega)
            have P4 := (P3.keep hA).off hoff (fun h => by have := hbs _ h; omega)
            have E4 := (E3.keep hA).off hoff (fun h => by have := hbs _ h; omega)
            have T4 := (T3.keep hA).off hoff (fun y hy h => by have := hbs _ h; have := ltt y hy; omega)
            have U4 := (U3.keep hA).off hoff (fun y hy h => by have := hbs _ h; have := lt1 y hy; omega)
            have H4 := (H3.keep hA).off hoff hdj3.symm
            have O4 := (O3.trans (Off.ofBelow hA)).past3 hoff (fun z hz => .inr (by have := hbs _ hz; omega))
            clear hO4 hoff hI1 Z3 R3 P3 E3 T3 U3 H3 O3 hA hdj3 hg4 hbs
            go_wp2
            go_roundw
            case rel => exact ⟨n + 1, [g], cs3, by omega, by go_num, I4, hb4, by rw [HH.out.1]; exact Z4, R4, P4, E4, T4, U4, by rw [HH.out.2.1]; exact H4, hcs4, hdj4, O4⟩
            case measure => simp [intOf]; omega
        · obtain rfl : n = 4 := by omega
          rw [show ((4 : Nat) : Int) = 4 from rfl]
          have KA := impl_AgreeInput _ (inH x o left 4) wr (Own.reads I)
          have HV : Hid (0 ≤ (agreeR (inH x o left 4)).2 ∧ (agreeR (inH x o left 4)).2 < 256) := agreeR_bd (inH_bd hlb 4)
          generalize hxs : inH x o left 4 = xs at *
          have HXS : Hid (inH x o left 4 = xs) := hxs
          clear hxs
          generalize (agreeR xs).1 = ac at *
          generalize hav : (agreeR xs).2 = av at *
          have HAV : Hid ((agreeR xs).2 = av) := hav
          clear hav
          have nf := fieldIR_1
          go_wp2_with fail
          refine KA.mono ?_
          rintro e w2 ⟨rfl, hb2⟩
          replace Z := Z.keep hb2
          replace R0 := R0.keep hb2
          replace P0 := P0.keep hb2
          replace T := T.keep hb2
          replace U := U.keep hb2
          replace H := H.keep hb2
          replace O2 := O2.trans (Off.ofBelow hb2)
          clear hb2 KA I
          have pc : w2.cell? ⟨w.heap.size + 1, o, none⟩ = some (.int .i64 ((inP x o 4).getD o 0)) := (P0.at.1 o).trans (agC_get (by rw [inP_len]; exact ho))
          have pf := P0.at.2 o
          have pl := P0.lt
          have hio : (o : Int) < 4 := by omega
          have hio0 : (0 : Int) ≤ (o : Int) := by omega
          have P3 := P0.set o (.int .i64 av)
          rw [agC_set] at P3
          have HPO : Hid (((inP x o 4).set o av).length = 4) := by show _ = _; rw [List.length_set]; exact inP_len x o 4
          have HOK : Hid (okV 256 ((inP x o 4).set o av) = true) := okV_setI (inP_bd x o 4) HV.out
          generalize hpe : (inP x o 4).set o av = ps at *
          have HPE : Hid ((inP x o 4).set o av = ps) := hpe
          clear hpe
          have OP : Off [w.heap.size + 1] w2 (w2.setCell ⟨w.heap.size + 1, o, none⟩ (.int .i64 av)) := (Off.refl _ _).setCell _ _ (by simp)
          have Z3 := Z.off OP (by simp; omega)
          have R3 := R0.off OP (by simp)
          have zR : w.heap.size < (w2.setCell ⟨w.heap.size + 1, o, none⟩ (.int .i64 av)).heap.size := R3.lt
          have T3 := T.off OP (fun g hg hm => by have := ltt g hg; simp at hm; omega)
          have U3 := U.off OP (fun g hg hm => by have := lt1 g hg; simp at hm; omega)
          have H3 := H.off OP (fun g hg hm => by simp at hm; rcases hcs _ hg with h | h; (have := lt2 g h; omega); omega)
          have O3 : Off (b0 :: (b1 ++ b2)) w (w2.setCell ⟨w.heap.size + 1, o, none⟩ (.int .i64 av)) := O2.setCell _ _ (.inr (by simp))
          have zcs : ∀ y ∈ cs, y < (w2.setCell ⟨w.heap.size + 1, o, none⟩ (.int .i64 av)).heap.size := H3.lt
          have zw : w.heap.size ≤ (w2.setCell ⟨w.heap.size + 1, o, none⟩ (.int .i64 av)).heap.size := O3.size
          have HM : Hid (mirrorOfR 256 ps = ⟨0, ⟨256, mirRows ps⟩⟩) := by show _ = _; unfold mirrorOfR; rw [if_pos (.inr rfl), if_pos HPO.out, if_pos HOK.out]
          obtain ⟨pa, pb, pcc, pd, hps⟩ := four ps HPO.out
          have KL := fun V => impl_list ps V HPO.out
          have KM := fun u V h => impl_MirrorOf 256 u ps V h
          rw [HM.out] at KM
          rw [show ag ps = .agg #[.int .i64 pa, .int .i64 pb, .int .i64 pcc, .int .i64 pd] by rw [hps]; rfl] at KL
          have P4 : Blk (w2.setCell ⟨w.heap.size + 1, o, none⟩ (.int .i64 av)) (w.heap.size + 1) 85 #[.int .i64 pa, .int .i64 pb, .int .i64 pcc, .int .i64 pd] := by
            have h := P3
            rw [hps] at h
            exact h
          have HSQ : Hid (Sq (mirRows ps)) := mirRows_sq HPO.out
          have p4 := P4.at.1
          have mr := fieldMR1'
          have hcs5 : ∀ y ∈ cs, y ∈ b2 ∨ w.heap.size ≤ y := fun y hy => (hcs y hy).imp id (fun h => by omega)
          clear Z R0 P0 E0 T U H O2 P3 OP hps HOK
          go_wp2_with fail
          clear p4 pc pf pl
          refine (KL _).mono ?_
          rintro e w5 ⟨g5, rfl, I5, hg5, hb5⟩
          replace Z3 := Z3.keep hb5
          replace R3 := R3.keep hb5
          replace T3 := T3.keep hb5
          replace U3 := U3.keep hb5
          replace H3 := H3.keep hb5
          replace O3 := O3.trans (Off.ofBelow hb5)
          have z5 := hb5.size
          clear hb5 KL P4
          go_wp2_with fail
          refine (KM _ _ (Ints.reads I5)).mono ?_
          rintro e w6 ⟨u, bm, rfl, ⟨p6, c6, rfl, M6⟩, hf6, hb6⟩
          replace Z3 := Z3.keep hb6
          replace R3 := R3.keep hb6
          replace T3 := T3.keep hb6
          replace U3 := U3.keep hb6
          replace H3 := H3.keep hb6
          replace O3 := O3.trans (Off.ofBelow hb6)
          dsimp only at M6
          rw [HSQ.out.1] at M6
          dsimp only
          rw [HSQ.out.1]
          clear hb6 KM I5
          have ra := R3.at.1
          have rb := R3.at.2
          have rl := R3.lt
          have OR : ∀ V, Off [w.heap.size] w6 V → ∃ p c bm cs, Ending.returned (.agg #[.int .i64 256, .slice p6 4 c6]) = .returned (.agg #[.int .i64 256, .slice p 4 c]) ∧ Mat V (.slice p 4 c) (mirRows ps) bm ∧ (∀ y ∈ bm, w.heap.size ≤ y) ∧ Dj bm cs ∧ Blk V b0 41 #[.slice q0 x.xTape.length d0, .slice q1 x.xUsed.length d1, .int .i64 (inSt x o 4), .slice (some ⟨gH, 0, none⟩) x.xHeard.length d2, .int .i64 x.xCheat.xWho, .int .i64 x.xCheat.xAt, .int .i64 x.xCheat.xBy, .bool x.xCheat.xCry, .bool x.xQuarrel.xSome, .int .i64 x.xQuarrel.xFrom, .int .i64 x.xQuarrel.xCheck, .int .i64 x.xQuarrel.xTo, .int .i64 x.xQuarrel.xTold, .int .i64 x.xQuarrel.xHeard, .int .i64 x.xQuarrel.xOther, .int .i64 x.xQuarrel.xVowed] ∧ Mat V (.slice q0 x.xTape.length d0) x.xTape bt ∧ Ints V (.slice q1 x.xUsed.length d1) (inU x.xUsed o 4) b1 ∧ MatT V (.slice (some ⟨gH, 0, none⟩) x.xHeard.length d2) (inHd x o left 4) cs ∧ (∀ y ∈ cs, y ∈ b2 ∨ w.heap.size ≤ y) ∧ Off (b0 :: (b1 ++ b2)) w V := fun V o' => ⟨p6, c6, bm, cs, rfl, M6.off o' (fun y hy hm => by have := hf6 y hy; simp at hm; omega), fun y hy => by have := hf6 y hy; omega, fun y hy hm => by have := hf6 y hy; have := zcs y hm; omega, Z3.off o' (by simp; omega), T3.off o' (fun y hy hm => by have := ltt y hy; simp at hm; omega), U3.off o' (fun y hy hm => by have := lt1 y hy; simp at hm; omega), H3.off o' (fun y hy hm => by simp at hm; rcases hcs y hy with h | h; (have := lt2 y h; omega); omega), hcs5, O3.past3 o' (fun z hz => .inr (by simp at hz; omega))⟩
          clear Z3 T3 U3 H3 O3 M6
          go_wp2
          exact bodyPost_ret (v := .agg #[.int .i64 256, .slice p6 4 c6]) (by simp [results, Tryz.results64, go_sem, ra]) rfl (by rw [HLF.out, HXS.out, HAV.out, HPE.out]; exact OR _ (((Off.refl _ _).setCell _ _ (by simp)).setCell _ _ (by simp)))
end Go.Proofs.YtbmemdgeohnpnalGreat
