/-
  A bit as a number, plain; two bits in the ring over lists of sixteen numbers, in the model; lists of mirrors made by append.
-/
import Derived.Test.YtepobckhfodngaoGreatXoSo
import Derived.Test.YtepobckhfodngaoGreatNX
import Derived.Test.YtepobckhfodngaoGreatLtS
namespace Go.Proofs.YtepobckhfodngaoGreat
open Go.ChangeShapes Go.WideShapes Go.ChangeAt Go.RowKit
set_option linter.unusedVariables false

/-- a bit as a number: what is lifted of parts 0 and 1, of 2 and 3, and both -/
def ijA (fs : List Int) (x : MNet) : List Int := xrF (lfF fs 0) (lfF fs 1) x
def ijX1 (fs : List Int) (x : MNet) : MNet := prX 256 (lfF fs 0) (lfF fs 1) x
def ijB (fs : List Int) (x : MNet) : List Int := xrF (lfF fs 2) (lfF fs 3) (ijX1 fs x)
def ijX2 (fs : List Int) (x : MNet) : MNet := prX 256 (lfF fs 2) (lfF fs 3) (ijX1 fs x)
def ijX3 (fs : List Int) (x : MNet) : MNet := prX 256 (ijA fs x) (ijB fs x) (ijX2 fs x)
def ijF (fs : List Int) (x : MNet) : List Int := xrF (ijA fs x) (ijB fs x) (ijX2 fs x)
def ijX (fs : List Int) (x : MNet) : MNet := if (ijX1 fs x).xQuarrel.xSome = true then ijX1 fs x else if (ijX2 fs x).xQuarrel.xSome = true then ijX2 fs x else ijX3 fs x
theorem ijX_1 {fs : List Int} {x : MNet} (h : (ijX1 fs x).xQuarrel.xSome = true) : ijX fs x = ijX1 fs x := if_pos h
theorem ijX_2 {fs : List Int} {x : MNet} (h1 : (ijX1 fs x).xQuarrel.xSome = false) (h2 : (ijX2 fs x).xQuarrel.xSome = true) : ijX fs x = ijX2 fs x := by
  unfold ijX
  rw [if_neg (by rw [h1]; decide), if_pos h2]
theorem ijX_3 {fs : List Int} {x : MNet} (h1 : (ijX1 fs x).xQuarrel.xSome = false) (h2 : (ijX2 fs x).xQuarrel.xSome = false) : ijX fs x = ijX3 fs x := by
  unfold ijX
  rw [if_neg (by rw [h1]; decide), if_neg (by rw [h2]; decide)]
theorem ijX_B (fs : List Int) {m : Nat} {x : MNet} (B : NetB m x) : NetB (m + 12) (ijX1 fs x) ∧ NetB (m + 12 + 12) (ijX2 fs x) ∧ NetB (m + 12 + 12 + 12) (ijX3 fs x) := by
  have h1 := (prF_ok (.inr rfl) (lfF fs 0) (lfF fs 1) B).1
  have h2 := (prF_ok (.inr rfl) (lfF fs 2) (lfF fs 3) h1).1
  exact ⟨h1, h2, (prF_ok (.inr rfl) (ijA fs x) (ijB fs x) h2).1⟩
theorem xo_list (fs gs : List Int) (x : MNet) : xoX x ⟨256, unflat fs⟩ ⟨256, unflat gs⟩ = prX 256 fs gs x ∧ xoF x ⟨256, unflat fs⟩ ⟨256, unflat gs⟩ = xrF fs gs x := by
  refine ⟨rfl, ?_⟩
  have e : dotS 256 (vsOf [⟨256, unflat fs⟩]) (vsOf [⟨256, unflat gs⟩]) 1 x = prF 256 fs gs x := rfl
  unfold xoF xrF xoV xoA xoB subF addF
  rw [e, sh_flat (opRows_sq _ _ _ _), sh_flat (opRows_sq _ _ _ _)]
/-- no party's own part stands in its view -/
def Own0 (fs : List Int) : Prop := ∀ p, p < 4 → fs.getD (p * 4 + p) 0 = 0
theorem Own0.T {fs : List Int} (h : Own0 fs) : OwnT [unflat fs] := by
  intro t p
  cases t with
  | zero =>
    show pt (unflat fs) p p = 0
    by_cases hp : p < 4
    · rw [pt_unflat fs p p hp hp]; exact h p hp
    · exact pt_out (unflat_sq fs) p p (fun k => hp k.1)
  | succ t => simp [pt]
theorem Own0.put {q : Int} {fs : List Int} (h : Own0 fs) {p k : Nat} (hk : k < 4) (hn : p ≠ k) (y : Int) : Own0 (putF q fs p k y) := by
  intro r hr
  unfold putF
  rw [List.getD_eq_getElem?_getD, List.getElem?_set_ne (by omega), ← List.getD_eq_getElem?_getD]
  exact h r hr
theorem Own0.mixed {q : Int} {xss yss : List (List (List Int))} {n : Nat} {x : MNet} {fs : List Int} (h : Own0 fs) {i j : Nat} (hij : i < j) (hj : j < 4) : Own0 (mixF q xss yss n x fs i j) := by
  obtain ⟨-, -, h1, h2, h3, h4, h5, h6, -⟩ := kl_of i j hij hj
  exact (((((h.put hj (by omega) _).put hj h4 _).put hj h6 _).put (by omega) h3 _).put (by omega) h5 _).put (by omega) (by omega) _
theorem dotGo_own0 {q : Int} {xss yss : List (List (List Int))} {n : Nat} : ∀ (ps : List (Nat × Nat)) (x : MNet) (fs : List Int), (∀ p ∈ ps, p.1 < p.2 ∧ p.2 < 4) → Own0 fs → Own0 (dotGo q xss yss n ps x fs).2
  | [], x, fs, _, h => h
  | p :: r, x, fs, hp, h => by
    have h1 : Own0 (mixF q xss yss n x fs p.1 p.2) := h.mixed (hp p (by simp)).1 (hp p (by simp)).2
    rw [dotGo]
    split
    · exact h1
    · exact dotGo_own0 r _ _ (fun z hz => hp z (by simp [hz])) h1
theorem sqF_own0 {q : Int} {xss yss : List (List (List Int))} {n : Nat} (h : OwnT xss) : Own0 (sqF q xss yss n) := by
  intro p hp
  have : (sqF q xss yss n).getD (p * 4 + p) 0 = sqN xss yss ((p * 4 + p) / 4) ((p * 4 + p) % 4) n % q := by
    have hj : p * 4 + p < 16 := by omega
    simp [sqF, hj]
  rw [this, show (p * 4 + p) / 4 = p by omega, show (p * 4 + p) % 4 = p by omega, sqN_own h]
  exact Int.zero_emod _
theorem prF_own0 {q : Int} {fs : List Int} (gs : List Int) (x : MNet) (h : Own0 fs) : Own0 (prF q fs gs x) := dotGo_own0 pairs6 x _ (by decide) (sqF_own0 h.T)
theorem op_own0 {q : Int} (f : Int → Int → Int) (h0 : f 0 0 = 0) {fs gs : List Int} (hf : Own0 fs) (hg : Own0 gs) : Own0 (opRows f q (unflat fs) (unflat gs)).flatten := by
  intro p hp
  rw [flat_getD (opRows_sq _ _ _ _) p p hp hp, nx_pt _ _ _ _ _ _ hp hp, pt_unflat fs p p hp hp, pt_unflat gs p p hp hp, hf p hp, hg p hp, h0]
  exact Int.zero_emod _
theorem addF_own0 {q : Int} {fs gs : List Int} (hf : Own0 fs) (hg : Own0 gs) : Own0 (addF q fs gs) := op_own0 _ rfl hf hg
theorem subF_own0 {q : Int} {fs gs : List Int} (hf : Own0 fs) (hg : Own0 gs) : Own0 (subF q fs gs) := op_own0 _ rfl hf hg
theorem xrF_own0 {fs gs : List Int} (x : MNet) (hf : Own0 fs) (hg : Own0 gs) : Own0 (xrF fs gs x) := subF_own0 (addF_own0 hf hg) (addF_own0 (prF_own0 gs x hf) (prF_own0 gs x hf))
theorem lfF_own0 {fs : List Int} (part : Nat) (h : Own0 fs) : Own0 (lfF fs part) := by
  intro p hp
  have hj : p * 4 + p < 16 := by omega
  have : (lfF fs part).getD (p * 4 + p) 0 = if (p * 4 + p) / 4 < 4 ∧ (p * 4 + p) % 4 = part then fs.getD (p * 4 + p) 0 else 0 := by
    unfold lfF lfN
    rw [List.getD_eq_getElem?_getD, List.getElem?_map, List.getElem?_range hj]
    rfl
  rw [this, h p hp]
  split <;> rfl
theorem RowOk_list {fs gs : List Int} (hf : Ok16 256 fs) (hg : Ok16 256 gs) (ho : Own0 fs) : RowOk 256 1 [⟨256, unflat fs⟩] [⟨256, unflat gs⟩] :=
  ⟨rfl, rfl, .inr rfl, ⟨Nat.le_refl _, by omega⟩, fun t ht => by obtain rfl : t = 0 := (by omega); exact unflat_sq fs, fun t ht => by obtain rfl : t = 0 := (by omega); exact unflat_sq gs, BdT_one hf, BdT_one hg, ho.T⟩
theorem spec_l5Xor_fs (b0 b1 y1 b2 y2 : Nat) (v1 v2 : Value) (x : MNet) (bs : List Nat) (m : Nat) (fs gs : List Int) (w : World) (N : NetIn w b0 x bs) (B : NetB m x) (hm : m ≤ 199970) (hq0 : x.xQuarrel.xSome = false) (hf : Ok16 256 fs) (hg : Ok16 256 gs) (ho : Own0 fs)
    (FA : ∀ W, Off (b0 :: bs) w W → MirAt W b1 y1 256 v1 (unflat fs)) (FB : ∀ W, Off (b0 :: bs) w W → MirAt W b2 y2 256 v2 (unflat gs)) :
    Calls Tryz.prog 87 #[.pointer (some ⟨b0, 0, none⟩), .pointer (some ⟨b1, y1, none⟩), .pointer (some ⟨b2, y2, none⟩)] w fun e w' => ∃ cs p c bm, e = .returned (.tuple #[.agg #[.int .i64 (mOf (prX 256 fs gs x).xQuarrel.xSome 256 (xrF fs gs x)).xQ, .slice p (mOf (prX 256 fs gs x).xQuarrel.xSome 256 (xrF fs gs x)).xViews.length c], .bool (!(prX 256 fs gs x).xQuarrel.xSome)]) ∧ Mat w' (.slice p (mOf (prX 256 fs gs x).xQuarrel.xSome 256 (xrF fs gs x)).xViews.length c) (mOf (prX 256 fs gs x).xQuarrel.xSome 256 (xrF fs gs x)).xViews bm ∧ (∀ y ∈ bm, w.heap.size ≤ y ∧ y ∉ cs) ∧ NetIn w' b0 (prX 256 fs gs x) cs ∧ (∀ y ∈ cs, y ∈ bs ∨ w.heap.size ≤ y) ∧ Off (b0 :: bs) w w' := by
  obtain ⟨pa, ca, rfl⟩ := (FA w (Off.refl _ _)).2.shp
  obtain ⟨pb, cb, rfl⟩ := (FB w (Off.refl _ _)).2.shp
  have K := spec_l5Xor_at b0 b1 y1 b2 y2 pa pb ca cb x bs m ⟨256, unflat fs⟩ ⟨256, unflat gs⟩ w N B hm hq0 FA FB rfl rfl (RowOk_list hf hg ho)
  rw [(xo_list fs gs x).1, (xo_list fs gs x).2] at K
  exact K
/-- mirrors that stand already in a list made by append -/
def LsO (lo : Nat) (wr : World) (G : Nat → MMirror) (b g cap : Nat) (us : List Value) (bi : List (List Nat)) : Prop :=
  Own wr 36 2 (.slice (some ⟨g, 0, none⟩) b cap) b (msC us ((List.range b).map G)) [g] ∧ MsR wr us ((List.range b).map G) bi ∧ (g :: bi.flatten).Nodup ∧ (∀ y ∈ g :: bi.flatten, lo ≤ y)
theorem LsO.lts {lo : Nat} {wr : World} {G : Nat → MMirror} {b g cap : Nat} {us : List Value} {bi : List (List Nat)} (h : LsO lo wr G b g cap us bi) : ∀ y ∈ g :: bi.flatten, y < wr.heap.size := fun y hy => by
  rcases List.mem_cons.1 hy with k | k
  · exact h.1.lt y (by simp [k])
  · exact h.2.1.lt y k
theorem LsO.off {lo : Nat} {wr w' : World} {G : Nat → MMirror} {b g cap : Nat} {us : List Value} {bi : List (List Nat)} {cs : List Nat} (h : LsO lo wr G b g cap us bi) (o : Off cs wr w') (hn : ∀ y ∈ g :: bi.flatten, y ∉ cs) : LsO lo w' G b g cap us bi :=
  ⟨h.1.off o (fun y hy => hn y (by simp at hy; simp [hy])), h.2.1.off o (fun y hy => hn y (by simp only [List.mem_cons]; exact .inr hy)), h.2.2⟩
theorem LsO.push {lo : Nat} {W w3 : World} {G : Nat → MMirror} {b g cap g3 c3 : Nat} {us : List Value} {bi : List (List Nat)} {u : Value} {bm : List Nat} (h : LsO lo W G b g cap us bi) (M : Mat W u (G b).xViews bm) (hm : ∀ y ∈ bm, y ∉ g :: bi.flatten) (hm2 : ∀ y ∈ bm, lo ≤ y) (hw : lo ≤ W.heap.size)
    (o3 : Own w3 36 2 (.slice (some ⟨g3, 0, none⟩) (b + 1) c3) (b + 1) (msC us ((List.range b).map G) ++ [.int .i64 (G b).xQ, u]) [g3]) (off : Off [g] W w3) (hg : g = g3 ∨ W.heap.size ≤ g3) : LsO lo w3 G (b + 1) g3 c3 (us ++ [u]) (bi ++ [bm]) := by
  obtain ⟨h1, h2, h3, h4⟩ := h
  have e : (List.range (b + 1)).map G = (List.range b).map G ++ [G b] := by rw [List.range_succ, List.map_append]; rfl
  have l2 := h2.lt
  have lM := M.lt
  have nd : bm.Nodup := by obtain ⟨_, _, _, _, _, _, k⟩ := M; exact k
  have ng : g ∉ bi.flatten := (List.nodup_cons.1 h3).1
  have fe : (bi ++ [bm]).flatten = bi.flatten ++ bm := by simp
  have g3n : g3 ∉ bi.flatten ++ bm := fun hc => by
    rcases List.mem_append.1 hc with k | k
    · rcases hg with rfl | hg
      · exact ng k
      · have := l2 _ k; omega
    · rcases hg with rfl | hg
      · exact hm _ k (by simp)
      · have := lM _ k; omega
  have nda : ∀ {l1 l2 : List Nat}, l1.Nodup → l2.Nodup → (∀ y ∈ l1, y ∉ l2) → (l1 ++ l2).Nodup := fun a b c => List.nodup_append.2 ⟨a, b, fun x hx y hy e => c x hx (e ▸ hy)⟩
  refine ⟨by rw [e, msC_snoc u (G b) h2.len.1]; exact o3, by rw [e]; exact MsR.snoc (h2.off off (fun y hy hc => by simp at hc; exact ng (hc ▸ hy))) (M.off off (fun y hy hc => by simp at hc; exact hm y hy (by simp [hc]))), ?_, ?_⟩
  · rw [fe]
    exact List.nodup_cons.2 ⟨g3n, nda (List.nodup_cons.1 h3).2 nd (fun y hy hc => hm y hc (by simp only [List.mem_cons]; exact .inr hy))⟩
  · intro y hy
    rw [fe] at hy
    rcases List.mem_cons.1 hy with k | k
    · rcases hg with e | e
      · rw [k, ← e]; exact h4 g (by simp)
      · omega
    · rcases List.mem_append.1 k with k | k
      · exact h4 y (by simp only [List.mem_cons]; exact .inr k)
      · exact hm2 y k
/-- one of them, wherever it lies, as long as nothing of it is written -/
theorem LsO.at {lo : Nat} {w0 : World} {G : Nat → MMirror} {b g cap : Nat} {us : List Value} {bi : List (List Nat)} (h : LsO lo w0 G b g cap us bi) (i : Nat) (hi : i < b) : ∃ v, ∀ W cs, Off cs w0 W → (∀ y ∈ g :: bi.flatten, y ∉ cs) → MirAt W g (i * 2) (G i).xQ v (G i).xViews := by
  have hl := h.lts
  obtain ⟨h1, h2, h3, h4⟩ := h
  have hlen : ((List.range b).map G).length = b := by simp
  have hget : ((List.range b).map G).getD i zM = G i := by simp [hi]
  obtain ⟨u, bb, e1, e2, hM⟩ := h2.get i (by rw [hlen]; exact hi)
  obtain ⟨c1, c2⟩ := msC_get h2.len.1 i (by rw [hlen]; exact hi)
  rw [hget] at hM c1
  rw [e1] at c2
  refine ⟨u, fun W cs o hn => ⟨⟨Nat.lt_of_lt_of_le (hl g (by simp)) o.size, ?_, ?_⟩, (hM.off o (fun y hy => hn y (by simp only [List.mem_cons]; exact .inr (List.mem_flatten.2 ⟨bb, List.mem_of_getElem? e2, hy⟩)))).reads⟩⟩
  · have k := Own.cell h1 (i * 2) (by omega)
    exact ((o.at g (hl g (by simp)) (hn g (by simp))).1 _).trans (k.trans c1)
  · have k := Own.cell h1 (i * 2 + 1) (by omega)
    exact ((o.at g (hl g (by simp)) (hn g (by simp))).1 _).trans (k.trans c2)
end Go.Proofs.YtepobckhfodngaoGreat
