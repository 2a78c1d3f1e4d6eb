/-
  Structs that hold lists of mirrors: their plain shapes; reading and owning them; the contracts of the laws' helpers on them.
-/
import Derived.Test.YtepobckhfodngaoGreatMrT
namespace Go.Proofs.YtepobckhfodngaoGreat
open Go.ChangeShapes Go.WideShapes Go.ChangeAt Go.RowKit
set_option linter.unusedVariables false

/-- the plain shape of ManyBits -/
structure MManyBits where
  xCode : Int
  xMirrors : List MMirror
def RdManyBits (w : World) (v : Value) (x : MManyBits) : Prop := ∃ p0 c0, v = .agg #[.int .i64 x.xCode, .slice p0 x.xMirrors.length c0] ∧ RdMirrorS w (.slice p0 x.xMirrors.length c0) x.xMirrors
def OwManyBits (w : World) (v : Value) (x : MManyBits) (b0 : List Nat) : Prop := ∃ p0 c0, v = .agg #[.int .i64 x.xCode, .slice p0 x.xMirrors.length c0] ∧ OwMirrorS w (.slice p0 x.xMirrors.length c0) x.xMirrors b0
theorem RdManyBits.below {w w' : World} {v : Value} {x : MManyBits} (h : RdManyBits w v x) (hb : Below w.heap.size w w') : RdManyBits w' v x := by
  obtain ⟨p0, c0, e, h0⟩ := h
  exact ⟨p0, c0, e, h0.below hb⟩
theorem OwManyBits.rd {w : World} {v : Value} {x : MManyBits} {b0 : List Nat} (h : OwManyBits w v x b0) : RdManyBits w v x := by
  obtain ⟨p0, c0, e, h0⟩ := h
  exact ⟨p0, c0, e, OwMirrorS.reads h0⟩
theorem OwManyBits.keep {w : World} {v : Value} {x : MManyBits} {b0 : List Nat} {w' : World} (h : OwManyBits w v x b0) (hb : Below w.heap.size w w') : OwManyBits w' v x b0 := by
  obtain ⟨p0, c0, e, h0⟩ := h
  exact ⟨p0, c0, e, OwMirrorS.keep h0 hb⟩
theorem OwManyBits.off {w : World} {v : Value} {x : MManyBits} {b0 : List Nat} {w' : World} {cs : List Nat} (h : OwManyBits w v x b0) (hb : Off cs w w') (k : Dj (b0) cs) : OwManyBits w' v x b0 := by
  obtain ⟨p0, c0, e, h0⟩ := h
  exact ⟨p0, c0, e, OwMirrorS.off h0 hb (fun g hg => k g (by simp [hg]))⟩
theorem OwManyBits.lt {w : World} {v : Value} {x : MManyBits} {b0 : List Nat} (h : OwManyBits w v x b0) : ∀ g ∈ b0, g < w.heap.size := by
  obtain ⟨p0, c0, e, h0⟩ := h
  exact OwMirrorS.lt h0
theorem OwManyBits.shp {w : World} {v : Value} {x : MManyBits} {b0 : List Nat} (h : OwManyBits w v x b0) : ∃ p0 c0, v = .agg #[.int .i64 x.xCode, .slice p0 x.xMirrors.length c0] := by
  obtain ⟨p0, c0, e, _⟩ := h
  exact ⟨p0, c0, e⟩
theorem OwManyBits.alloc {w : World} {v : Value} {x : MManyBits} {b0 : List Nat} (h : OwManyBits w v x b0) (o : Obj) : OwManyBits (w.alloc o) v x b0 := h.keep ((Below.refl _ _).alloc (Nat.le_refl _) _)
theorem OwManyBits.drew {w : World} {v : Value} {x : MManyBits} {b0 : List Nat} (h : OwManyBits w v x b0) : OwManyBits w.drew v x b0 := h.keep (Below.refl _ _).drew
def totManyBits (x : MManyBits) : Nat := (totMirrorS x.xMirrors)
def cntManyBits (x : MManyBits) : Nat := cntMirrorS x.xMirrors
theorem cntManyBits_le (x : MManyBits) : cntManyBits x ≤ totManyBits x := by
  have := cntMirrorS_le x.xMirrors
  unfold cntManyBits totManyBits
  omega
def mkManyBits (k : Int) (x : MManyBits) : MManyBits := { x with xMirrors := mkMirrorS k x.xMirrors }
-- ManyResult
/-- the plain shape of ManyResult -/
structure MManyResult where
  xCode : Int
  xMirrors : List MMirror
  xNet : MNet
def RdManyResult (w : World) (v : Value) (x : MManyResult) : Prop := ∃ p0 c0 p1 c1 p2 c2 p3 c3, v = .agg #[.int .i64 x.xCode, .slice p0 x.xMirrors.length c0, .slice p1 x.xNet.xTape.length c1, .slice p2 x.xNet.xUsed.length c2, .int .i64 x.xNet.xSent, .slice p3 x.xNet.xHeard.length c3, .int .i64 x.xNet.xCheat.xWho, .int .i64 x.xNet.xCheat.xAt, .int .i64 x.xNet.xCheat.xBy, .bool x.xNet.xCheat.xCry, .bool x.xNet.xQuarrel.xSome, .int .i64 x.xNet.xQuarrel.xFrom, .int .i64 x.xNet.xQuarrel.xCheck, .int .i64 x.xNet.xQuarrel.xTo, .int .i64 x.xNet.xQuarrel.xTold, .int .i64 x.xNet.xQuarrel.xHeard, .int .i64 x.xNet.xQuarrel.xOther, .int .i64 x.xNet.xQuarrel.xVowed] ∧ RdMirrorS w (.slice p0 x.xMirrors.length c0) x.xMirrors ∧ ReadsM w (.slice p1 x.xNet.xTape.length c1) x.xNet.xTape ∧ Reads w .i64 (.slice p2 x.xNet.xUsed.length c2) x.xNet.xUsed ∧ ReadsM w (.slice p3 x.xNet.xHeard.length c3) x.xNet.xHeard
def OwManyResult (w : World) (v : Value) (x : MManyResult) (b0 b1 b2 b3 : List Nat) : Prop := ∃ p0 c0 p1 c1 p2 c2 p3 c3, v = .agg #[.int .i64 x.xCode, .slice p0 x.xMirrors.length c0, .slice p1 x.xNet.xTape.length c1, .slice p2 x.xNet.xUsed.length c2, .int .i64 x.xNet.xSent, .slice p3 x.xNet.xHeard.length c3, .int .i64 x.xNet.xCheat.xWho, .int .i64 x.xNet.xCheat.xAt, .int .i64 x.xNet.xCheat.xBy, .bool x.xNet.xCheat.xCry, .bool x.xNet.xQuarrel.xSome, .int .i64 x.xNet.xQuarrel.xFrom, .int .i64 x.xNet.xQuarrel.xCheck, .int .i64 x.xNet.xQuarrel.xTo, .int .i64 x.xNet.xQuarrel.xTold, .int .i64 x.xNet.xQuarrel.xHeard, .int .i64 x.xNet.xQuarrel.xOther, .int .i64 x.xNet.xQuarrel.xVowed] ∧ OwMirrorS w (.slice p0 x.xMirrors.length c0) x.xMirrors b0 ∧ Mat w (.slice p1 x.xNet.xTape.length c1) x.xNet.xTape b1 ∧ Ints w (.slice p2 x.xNet.xUsed.length c2) x.xNet.xUsed b2 ∧ Mat w (.slice p3 x.xNet.xHeard.length c3) x.xNet.xHeard b3 ∧ Dj b0 b1 ∧ Dj b0 b2 ∧ Dj b0 b3 ∧ Dj b1 b2 ∧ Dj b1 b3 ∧ Dj b2 b3
theorem RdManyResult.below {w w' : World} {v : Value} {x : MManyResult} (h : RdManyResult w v x) (hb : Below w.heap.size w w') : RdManyResult w' v x := by
  obtain ⟨p0, c0, p1, c1, p2, c2, p3, c3, e, h0, h1, h2, h3⟩ := h
  exact ⟨p0, c0, p1, c1, p2, c2, p3, c3, e, h0.below hb, h1.below hb, h2.below hb, h3.below hb⟩
theorem OwManyResult.rd {w : World} {v : Value} {x : MManyResult} {b0 b1 b2 b3 : List Nat} (h : OwManyResult w v x b0 b1 b2 b3) : RdManyResult w v x := by
  obtain ⟨p0, c0, p1, c1, p2, c2, p3, c3, e, h0, h1, h2, h3, d01, d02, d03, d12, d13, d23⟩ := h
  exact ⟨p0, c0, p1, c1, p2, c2, p3, c3, e, OwMirrorS.reads h0, Mat.reads h1, Ints.reads h2, Mat.reads h3⟩
theorem OwManyResult.keep {w : World} {v : Value} {x : MManyResult} {b0 b1 b2 b3 : List Nat} {w' : World} (h : OwManyResult w v x b0 b1 b2 b3) (hb : Below w.heap.size w w') : OwManyResult w' v x b0 b1 b2 b3 := by
  obtain ⟨p0, c0, p1, c1, p2, c2, p3, c3, e, h0, h1, h2, h3, d01, d02, d03, d12, d13, d23⟩ := h
  exact ⟨p0, c0, p1, c1, p2, c2, p3, c3, e, OwMirrorS.keep h0 hb, Mat.keep h1 hb, Ints.keep h2 hb, Mat.keep h3 hb, d01, d02, d03, d12, d13, d23⟩
theorem OwManyResult.off {w : World} {v : Value} {x : MManyResult} {b0 b1 b2 b3 : List Nat} {w' : World} {cs : List Nat} (h : OwManyResult w v x b0 b1 b2 b3) (hb : Off cs w w') (k : Dj (b0 ++ (b1 ++ (b2 ++ b3))) cs) : OwManyResult w' v x b0 b1 b2 b3 := by
  obtain ⟨p0, c0, p1, c1, p2, c2, p3, c3, e, h0, h1, h2, h3, d01, d02, d03, d12, d13, d23⟩ := h
  exact ⟨p0, c0, p1, c1, p2, c2, p3, c3, e, OwMirrorS.off h0 hb (fun g hg => k g (by simp [hg])), Mat.off h1 hb (fun g hg => k g (by simp [hg])), Ints.off h2 hb (fun g hg => k g (by simp [hg])), Mat.off h3 hb (fun g hg => k g (by simp [hg])), d01, d02, d03, d12, d13, d23⟩
theorem OwManyResult.lt {w : World} {v : Value} {x : MManyResult} {b0 b1 b2 b3 : List Nat} (h : OwManyResult w v x b0 b1 b2 b3) : ∀ g ∈ (b0 ++ (b1 ++ (b2 ++ b3))), g < w.heap.size := by
  obtain ⟨p0, c0, p1, c1, p2, c2, p3, c3, e, h0, h1, h2, h3, d01, d02, d03, d12, d13, d23⟩ := h
  intro g hg
  simp only [List.mem_append] at hg
  rcases hg with hg | hg | hg | hg
  · exact OwMirrorS.lt h0 g hg
  · exact Mat.lt h1 g hg
  · exact Ints.lt h2 g hg
  · exact Mat.lt h3 g hg
theorem OwManyResult.shp {w : World} {v : Value} {x : MManyResult} {b0 b1 b2 b3 : List Nat} (h : OwManyResult w v x b0 b1 b2 b3) : ∃ p0 c0 p1 c1 p2 c2 p3 c3, v = .agg #[.int .i64 x.xCode, .slice p0 x.xMirrors.length c0, .slice p1 x.xNet.xTape.length c1, .slice p2 x.xNet.xUsed.length c2, .int .i64 x.xNet.xSent, .slice p3 x.xNet.xHeard.length c3, .int .i64 x.xNet.xCheat.xWho, .int .i64 x.xNet.xCheat.xAt, .int .i64 x.xNet.xCheat.xBy, .bool x.xNet.xCheat.xCry, .bool x.xNet.xQuarrel.xSome, .int .i64 x.xNet.xQuarrel.xFrom, .int .i64 x.xNet.xQuarrel.xCheck, .int .i64 x.xNet.xQuarrel.xTo, .int .i64 x.xNet.xQuarrel.xTold, .int .i64 x.xNet.xQuarrel.xHeard, .int .i64 x.xNet.xQuarrel.xOther, .int .i64 x.xNet.xQuarrel.xVowed] := by
  obtain ⟨p0, c0, p1, c1, p2, c2, p3, c3, e, _⟩ := h
  exact ⟨p0, c0, p1, c1, p2, c2, p3, c3, e⟩
theorem OwManyResult.alloc {w : World} {v : Value} {x : MManyResult} {b0 b1 b2 b3 : List Nat} (h : OwManyResult w v x b0 b1 b2 b3) (o : Obj) : OwManyResult (w.alloc o) v x b0 b1 b2 b3 := h.keep ((Below.refl _ _).alloc (Nat.le_refl _) _)
theorem OwManyResult.drew {w : World} {v : Value} {x : MManyResult} {b0 b1 b2 b3 : List Nat} (h : OwManyResult w v x b0 b1 b2 b3) : OwManyResult w.drew v x b0 b1 b2 b3 := h.keep (Below.refl _ _).drew
def totManyResult (x : MManyResult) : Nat := (totMirrorS x.xMirrors) + (totNet x.xNet)
def cntManyResult (x : MManyResult) : Nat := cntMirrorS x.xMirrors + cntNet x.xNet
theorem cntManyResult_le (x : MManyResult) : cntManyResult x ≤ totManyResult x := by
  have := cntMirrorS_le x.xMirrors
  have := cntNet_le x.xNet
  unfold cntManyResult totManyResult
  omega
def mkManyResult (k : Int) (x : MManyResult) : MManyResult := { x with xMirrors := mkMirrorS k x.xMirrors, xNet := mkNet (k + (cntMirrorS x.xMirrors : Nat)) x.xNet }
set_option maxHeartbeats 1000000 in
theorem eqManyResult_rd (v u : Value) (x : MManyResult) (w : World) (hv : RdManyResult w v x) (hu : RdManyResult w u x) :
    Calls Tryz.prog 22 #[v, u] w fun e w' => e = .returned (.bool true) ∧ Below w.heap.size w w' := by
  obtain ⟨p0, c0, p1, c1, p2, c2, p3, c3, rfl, h0, h1, h2, h3⟩ := hv
  obtain ⟨q0, d0, q1, d1, q2, d2, q3, d3, rfl, k0, k1, k2, k3⟩ := hu
  have B0 : Below w.heap.size w ((w.alloc (.cells #[.int .i64 x.xCode, .slice p0 x.xMirrors.length c0, .slice p1 x.xNet.xTape.length c1, .slice p2 x.xNet.xUsed.length c2, .int .i64 x.xNet.xSent, .slice p3 x.xNet.xHeard.length c3, .int .i64 x.xNet.xCheat.xWho, .int .i64 x.xNet.xCheat.xAt, .int .i64 x.xNet.xCheat.xBy, .bool x.xNet.xCheat.xCry, .bool x.xNet.xQuarrel.xSome, .int .i64 x.xNet.xQuarrel.xFrom, .int .i64 x.xNet.xQuarrel.xCheck, .int .i64 x.xNet.xQuarrel.xTo, .int .i64 x.xNet.xQuarrel.xTold, .int .i64 x.xNet.xQuarrel.xHeard, .int .i64 x.xNet.xQuarrel.xOther, .int .i64 x.xNet.xQuarrel.xVowed] 58)).alloc (.cells #[.int .i64 x.xCode, .slice q0 x.xMirrors.length d0, .slice q1 x.xNet.xTape.length d1, .slice q2 x.xNet.xUsed.length d2, .int .i64 x.xNet.xSent, .slice q3 x.xNet.xHeard.length d3, .int .i64 x.xNet.xCheat.xWho, .int .i64 x.xNet.xCheat.xAt, .int .i64 x.xNet.xCheat.xBy, .bool x.xNet.xCheat.xCry, .bool x.xNet.xQuarrel.xSome, .int .i64 x.xNet.xQuarrel.xFrom, .int .i64 x.xNet.xQuarrel.xCheck, .int .i64 x.xNet.xQuarrel.xTo, .int .i64 x.xNet.xQuarrel.xTold, .int .i64 x.xNet.xQuarrel.xHeard, .int .i64 x.xNet.xQuarrel.xOther, .int .i64 x.xNet.xQuarrel.xVowed] 58)) := (by repeat (first | exact Below.refl _ _ | refine Below.drew ?_ | refine below_drewN ?_ _ | refine Below.setCell ?_ (by first | omega | (simp; done) | (simp; omega)) _ | refine Below.alloc ?_ (by first | omega | (simp; done) | (simp; omega)) _))
  have X0 := (Blk.new w 58 #[.int .i64 x.xCode, .slice p0 x.xMirrors.length c0, .slice p1 x.xNet.xTape.length c1, .slice p2 x.xNet.xUsed.length c2, .int .i64 x.xNet.xSent, .slice p3 x.xNet.xHeard.length c3, .int .i64 x.xNet.xCheat.xWho, .int .i64 x.xNet.xCheat.xAt, .int .i64 x.xNet.xCheat.xBy, .bool x.xNet.xCheat.xCry, .bool x.xNet.xQuarrel.xSome, .int .i64 x.xNet.xQuarrel.xFrom, .int .i64 x.xNet.xQuarrel.xCheck, .int .i64 x.xNet.xQuarrel.xTo, .int .i64 x.xNet.xQuarrel.xTold, .int .i64 x.xNet.xQuarrel.xHeard, .int .i64 x.xNet.xQuarrel.xOther, .int .i64 x.xNet.xQuarrel.xVowed]).alloc (.cells #[.int .i64 x.xCode, .slice q0 x.xMirrors.length d0, .slice q1 x.xNet.xTape.length d1, .slice q2 x.xNet.xUsed.length d2, .int .i64 x.xNet.xSent, .slice q3 x.xNet.xHeard.length d3, .int .i64 x.xNet.xCheat.xWho, .int .i64 x.xNet.xCheat.xAt, .int .i64 x.xNet.xCheat.xBy, .bool x.xNet.xCheat.xCry, .bool x.xNet.xQuarrel.xSome, .int .i64 x.xNet.xQuarrel.xFrom, .int .i64 x.xNet.xQuarrel.xCheck, .int .i64 x.xNet.xQuarrel.xTo, .int .i64 x.xNet.xQuarrel.xTold, .int .i64 x.xNet.xQuarrel.xHeard, .int .i64 x.xNet.xQuarrel.xOther, .int .i64 x.xNet.xQuarrel.xVowed] 58)
  have Y0 : Blk ((w.alloc (.cells #[.int .i64 x.xCode, .slice p0 x.xMirrors.length c0, .slice p1 x.xNet.xTape.length c1, .slice p2 x.xNet.xUsed.length c2, .int .i64 x.xNet.xSent, .slice p3 x.xNet.xHeard.length c3, .int .i64 x.xNet.xCheat.xWho, .int .i64 x.xNet.xCheat.xAt, .int .i64 x.xNet.xCheat.xBy, .bool x.xNet.xCheat.xCry, .bool x.xNet.xQuarrel.xSome, .int .i64 x.xNet.xQuarrel.xFrom, .int .i64 x.xNet.xQuarrel.xCheck, .int .i64 x.xNet.xQuarrel.xTo, .int .i64 x.xNet.xQuarrel.xTold, .int .i64 x.xNet.xQuarrel.xHeard, .int .i64 x.xNet.xQuarrel.xOther, .int .i64 x.xNet.xQuarrel.xVowed] 58)).alloc (.cells #[.int .i64 x.xCode, .slice q0 x.xMirrors.length d0, .slice q1 x.xNet.xTape.length d1, .slice q2 x.xNet.xUsed.length d2, .int .i64 x.xNet.xSent, .slice q3 x.xNet.xHeard.length d3, .int .i64 x.xNet.xCheat.xWho, .int .i64 x.xNet.xCheat.xAt, .int .i64 x.xNet.xCheat.xBy, .bool x.xNet.xCheat.xCry, .bool x.xNet.xQuarrel.xSome, .int .i64 x.xNet.xQuarrel.xFrom, .int .i64 x.xNet.xQuarrel.xCheck, .int .i64 x.xNet.xQuarrel.xTo, .int .i64 x.xNet.xQuarrel.xTold, .int .i64 x.xNet.xQuarrel.xHeard, .int .i64 x.xNet.xQuarrel.xOther, .int .i64 x.xNet.xQuarrel.xVowed] 58)) (w.heap.size + 1) 58 #[.int .i64 x.xCode, .slice q0 x.xMirrors.length d0, .slice q1 x.xNet.xTape.length d1, .slice q2 x.xNet.xUsed.length d2, .int .i64 x.xNet.xSent, .slice q3 x.xNet.xHeard.length d3, .int .i64 x.xNet.xCheat.xWho, .int .i64 x.xNet.xCheat.xAt, .int .i64 x.xNet.xCheat.xBy, .bool x.xNet.xCheat.xCry, .bool x.xNet.xQuarrel.xSome, .int .i64 x.xNet.xQuarrel.xFrom, .int .i64 x.xNet.xQuarrel.xCheck, .int .i64 x.xNet.xQuarrel.xTo, .int .i64 x.xNet.xQuarrel.xTold, .int .i64 x.xNet.xQuarrel.xHeard, .int .i64 x.xNet.xQuarrel.xOther, .int .i64 x.xNet.xQuarrel.xVowed] := by simpa using Blk.new (w.alloc (.cells #[.int .i64 x.xCode, .slice p0 x.xMirrors.length c0, .slice p1 x.xNet.xTape.length c1, .slice p2 x.xNet.xUsed.length c2, .int .i64 x.xNet.xSent, .slice p3 x.xNet.xHeard.length c3, .int .i64 x.xNet.xCheat.xWho, .int .i64 x.xNet.xCheat.xAt, .int .i64 x.xNet.xCheat.xBy, .bool x.xNet.xCheat.xCry, .bool x.xNet.xQuarrel.xSome, .int .i64 x.xNet.xQuarrel.xFrom, .int .i64 x.xNet.xQuarrel.xCheck, .int .i64 x.xNet.xQuarrel.xTo, .int .i64 x.xNet.xQuarrel.xTold, .int .i64 x.xNet.xQuarrel.xHeard, .int .i64 x.xNet.xQuarrel.xOther, .int .i64 x.xNet.xQuarrel.xVowed] 58)) 58 #[.int .i64 x.xCode, .slice q0 x.xMirrors.length d0, .slice q1 x.xNet.xTape.length d1, .slice q2 x.xNet.xUsed.length d2, .int .i64 x.xNet.xSent, .slice q3 x.xNet.xHeard.length d3, .int .i64 x.xNet.xCheat.xWho, .int .i64 x.xNet.xCheat.xAt, .int .i64 x.xNet.xCheat.xBy, .bool x.xNet.xCheat.xCry, .bool x.xNet.xQuarrel.xSome, .int .i64 x.xNet.xQuarrel.xFrom, .int .i64 x.xNet.xQuarrel.xCheck, .int .i64 x.xNet.xQuarrel.xTo, .int .i64 x.xNet.xQuarrel.xTold, .int .i64 x.xNet.xQuarrel.xHeard, .int .i64 x.xNet.xQuarrel.xOther, .int .i64 x.xNet.xQuarrel.xVowed]
  replace h0 := h0.below B0
  replace k0 := k0.below B0
  replace h1 := h1.below B0
  replace k1 := k1.below B0
  replace h2 := h2.below B0
  replace k2 := k2.below B0
  replace h3 := h3.below B0
  replace k3 := k3.below B0
  go_enter Tryz.func22, Tryz.ntmps22
  go_wp2_with fail
  refine (eqMirrorS_rd _ _ x.xMirrors _ (by exact h0) (by exact k0)).mono ?_
  rintro e w1 ⟨rfl, hb1⟩
  have X1 := X0.keep hb1
  have Y1 := Y0.keep hb1
  have B1 : Below w.heap.size w w1 := B0.trans (hb1.mono B0.size)
  replace h0 := h0.below hb1
  replace k0 := k0.below hb1
  replace h1 := h1.below hb1
  replace k1 := k1.below hb1
  replace h2 := h2.below hb1
  replace k2 := k2.below hb1
  replace h3 := h3.below hb1
  replace k3 := k3.below hb1
  clear X0 Y0
  have xa := X1.at.1
  have ya := Y1.at.1
  go_wp2_with fail
  clear xa ya
  refine (eqNet_rd _ _ x.xNet _ (by exact ⟨p1, c1, p2, c2, p3, c3, rfl, h1, h2, h3⟩) (by exact ⟨q1, d1, q2, d2, q3, d3, rfl, k1, k2, k3⟩)).mono ?_
  rintro e w2 ⟨rfl, hb2⟩
  have X2 := X1.keep hb2
  have Y2 := Y1.keep hb2
  have B2 : Below w.heap.size w w2 := B1.trans (hb2.mono B1.size)
  replace h0 := h0.below hb2
  replace k0 := k0.below hb2
  replace h1 := h1.below hb2
  replace k1 := k1.below hb2
  replace h2 := h2.below hb2
  replace k2 := k2.below hb2
  replace h3 := h3.below hb2
  replace k3 := k3.below hb2
  clear X1 Y1
  have xa := X2.at.1
  have ya := Y2.at.1
  go_wp2
  go_ret
  exact ⟨rfl, B2⟩
set_option maxHeartbeats 1000000 in
theorem markManyResult_ow (v : Value) (x : MManyResult) (b0 b1 b2 b3 : List Nat) (k : Int) (w : World) (hv : OwManyResult w v x b0 b1 b2 b3) (hk : 0 ≤ k) (hk' : k + (cntManyResult x : Nat) ≤ 536870912) :
    Calls Tryz.prog 25 #[v, .int .i64 k] w fun e w' => e = .returned (.int .i64 (k + (cntManyResult x : Nat))) ∧ OwManyResult w' v (mkManyResult k x) b0 b1 b2 b3 ∧ Off (b0 ++ (b1 ++ (b2 ++ b3))) w w' := by
  obtain ⟨p0, c0, p1, c1, p2, c2, p3, c3, rfl, h0, h1, h2, h3, d01, d02, d03, d12, d13, d23⟩ := hv
  have X0 := Blk.new w 58 #[.int .i64 x.xCode, .slice p0 x.xMirrors.length c0, .slice p1 x.xNet.xTape.length c1, .slice p2 x.xNet.xUsed.length c2, .int .i64 x.xNet.xSent, .slice p3 x.xNet.xHeard.length c3, .int .i64 x.xNet.xCheat.xWho, .int .i64 x.xNet.xCheat.xAt, .int .i64 x.xNet.xCheat.xBy, .bool x.xNet.xCheat.xCry, .bool x.xNet.xQuarrel.xSome, .int .i64 x.xNet.xQuarrel.xFrom, .int .i64 x.xNet.xQuarrel.xCheck, .int .i64 x.xNet.xQuarrel.xTo, .int .i64 x.xNet.xQuarrel.xTold, .int .i64 x.xNet.xQuarrel.xHeard, .int .i64 x.xNet.xQuarrel.xOther, .int .i64 x.xNet.xQuarrel.xVowed]
  have n0 : w.heap.size ∉ b0 := fun h => Nat.lt_irrefl _ (OwMirrorS.lt h0 _ h)
  have n1 : w.heap.size ∉ b1 := fun h => Nat.lt_irrefl _ (Mat.lt h1 _ h)
  have n2 : w.heap.size ∉ b2 := fun h => Nat.lt_irrefl _ (Ints.lt h2 _ h)
  have n3 : w.heap.size ∉ b3 := fun h => Nat.lt_irrefl _ (Mat.lt h3 _ h)
  replace h0 := OwMirrorS.alloc h0 (.cells #[.int .i64 x.xCode, .slice p0 x.xMirrors.length c0, .slice p1 x.xNet.xTape.length c1, .slice p2 x.xNet.xUsed.length c2, .int .i64 x.xNet.xSent, .slice p3 x.xNet.xHeard.length c3, .int .i64 x.xNet.xCheat.xWho, .int .i64 x.xNet.xCheat.xAt, .int .i64 x.xNet.xCheat.xBy, .bool x.xNet.xCheat.xCry, .bool x.xNet.xQuarrel.xSome, .int .i64 x.xNet.xQuarrel.xFrom, .int .i64 x.xNet.xQuarrel.xCheck, .int .i64 x.xNet.xQuarrel.xTo, .int .i64 x.xNet.xQuarrel.xTold, .int .i64 x.xNet.xQuarrel.xHeard, .int .i64 x.xNet.xQuarrel.xOther, .int .i64 x.xNet.xQuarrel.xVowed] 58)
  replace h1 := Mat.alloc h1 (.cells #[.int .i64 x.xCode, .slice p0 x.xMirrors.length c0, .slice p1 x.xNet.xTape.length c1, .slice p2 x.xNet.xUsed.length c2, .int .i64 x.xNet.xSent, .slice p3 x.xNet.xHeard.length c3, .int .i64 x.xNet.xCheat.xWho, .int .i64 x.xNet.xCheat.xAt, .int .i64 x.xNet.xCheat.xBy, .bool x.xNet.xCheat.xCry, .bool x.xNet.xQuarrel.xSome, .int .i64 x.xNet.xQuarrel.xFrom, .int .i64 x.xNet.xQuarrel.xCheck, .int .i64 x.xNet.xQuarrel.xTo, .int .i64 x.xNet.xQuarrel.xTold, .int .i64 x.xNet.xQuarrel.xHeard, .int .i64 x.xNet.xQuarrel.xOther, .int .i64 x.xNet.xQuarrel.xVowed] 58)
  replace h2 := Ints.alloc h2 (.cells #[.int .i64 x.xCode, .slice p0 x.xMirrors.length c0, .slice p1 x.xNet.xTape.length c1, .slice p2 x.xNet.xUsed.length c2, .int .i64 x.xNet.xSent, .slice p3 x.xNet.xHeard.length c3, .int .i64 x.xNet.xCheat.xWho, .int .i64 x.xNet.xCheat.xAt, .int .i64 x.xNet.xCheat.xBy, .bool x.xNet.xCheat.xCry, .bool x.xNet.xQuarrel.xSome, .int .i64 x.xNet.xQuarrel.xFrom, .int .i64 x.xNet.xQuarrel.xCheck, .int .i64 x.xNet.xQuarrel.xTo, .int .i64 x.xNet.xQuarrel.xTold, .int .i64 x.xNet.xQuarrel.xHeard, .int .i64 x.xNet.xQuarrel.xOther, .int .i64 x.xNet.xQuarrel.xVowed] 58)
  replace h3 := Mat.alloc h3 (.cells #[.int .i64 x.xCode, .slice p0 x.xMirrors.length c0, .slice p1 x.xNet.xTape.length c1, .slice p2 x.xNet.xUsed.length c2, .int .i64 x.xNet.xSent, .slice p3 x.xNet.xHeard.length c3, .int .i64 x.xNet.xCheat.xWho, .int .i64 x.xNet.xCheat.xAt, .int .i64 x.xNet.xCheat.xBy, .bool x.xNet.xCheat.xCry, .bool x.xNet.xQuarrel.xSome, .int .i64 x.xNet.xQuarrel.xFrom, .int .i64 x.xNet.xQuarrel.xCheck, .int .i64 x.xNet.xQuarrel.xTo, .int .i64 x.xNet.xQuarrel.xTold, .int .i64 x.xNet.xQuarrel.xHeard, .int .i64 x.xNet.xQuarrel.xOther, .int .i64 x.xNet.xQuarrel.xVowed] 58)
  have O0 : Off (b0 ++ (b1 ++ (b2 ++ b3))) w (w.alloc (.cells #[.int .i64 x.xCode, .slice p0 x.xMirrors.length c0, .slice p1 x.xNet.xTape.length c1, .slice p2 x.xNet.xUsed.length c2, .int .i64 x.xNet.xSent, .slice p3 x.xNet.xHeard.length c3, .int .i64 x.xNet.xCheat.xWho, .int .i64 x.xNet.xCheat.xAt, .int .i64 x.xNet.xCheat.xBy, .bool x.xNet.xCheat.xCry, .bool x.xNet.xQuarrel.xSome, .int .i64 x.xNet.xQuarrel.xFrom, .int .i64 x.xNet.xQuarrel.xCheck, .int .i64 x.xNet.xQuarrel.xTo, .int .i64 x.xNet.xQuarrel.xTold, .int .i64 x.xNet.xQuarrel.xHeard, .int .i64 x.xNet.xQuarrel.xOther, .int .i64 x.xNet.xQuarrel.xVowed] 58)) := (Off.refl _ _).alloc _
  have HC : Hid (cntManyResult x = cntMirrorS x.xMirrors + cntNet x.xNet) := rfl
  have hk'' := hk'
  rw [HC.out] at hk''
  clear hk'
  have C0 : Hid (cntMirrorS x.xMirrors = cntMirrorS x.xMirrors) := rfl
  have C1 : Hid (cntNet x.xNet = cntNet x.xNet) := rfl
  go_enter Tryz.func25, Tryz.ntmps25
  go_wp2_with fail
  refine (markMirrorS_ow _ x.xMirrors b0 _ _ (by exact h0) (by omega) (by omega)).mono ?_
  rintro e w1 ⟨rfl, m0, o1⟩
  have X1 := X0.off o1 (by simp [n0])
  have O1 := O0.trans (o1.mono (fun g hg => by simp [hg]))
  replace h1 := Mat.off h1 o1 (d01.symm)
  replace h2 := Ints.off h2 o1 (d02.symm)
  replace h3 := Mat.off h3 o1 (d03.symm)
  have xa := X1.at.1
  go_wp2_with fail
  clear xa
  refine (markNet_ow _ x.xNet b1 b2 b3 _ _ (by exact ⟨p1, c1, p2, c2, p3, c3, rfl, h1, h2, h3, d12, d13, d23⟩) (by omega) (by omega)).mono ?_
  rintro e w2 ⟨rfl, m1, o2⟩
  have O2 := O1.trans (o2.mono (fun g hg => by simp only [List.mem_append] at hg; rcases hg with h | h | h <;> simp [h]))
  replace m0 := OwMirrorS.off m0 o2 (fun g hg hm => by simp only [List.mem_append] at hm; rcases hm with hm | hm | hm; (exact d01 g hg hm); (exact d02 g hg hm); (exact d03 g hg hm))
  go_wp2
  go_ret
  refine ⟨by rw [HC.out]; go_num, ?_, O2⟩
  obtain ⟨P1, Q1, P2, Q2, P3, Q3, e1, m1_1, m1_2, m1_3, _, _, _⟩ := m1
  simp [mkNet, mkTape, marksM_length, marks_length] at e1
  obtain ⟨⟨rfl, rfl⟩, ⟨rfl, rfl⟩, ⟨rfl, rfl⟩⟩ := e1
  refine ⟨p0, c0, p1, c1, p2, c2, p3, c3, by simp [mkManyResult, mkMirrorS_length, mkNet, mkTape, marksM_length, marks_length], ?_, ?_, ?_, ?_, d01, d02, d03, d12, d13, d23⟩
  · simpa [mkManyResult, mkMirrorS_length, mkNet, mkTape, marksM_length, marks_length] using m0
  · simpa [mkManyResult, mkMirrorS_length, mkNet, mkTape, marksM_length, marks_length] using m1_1
  · simpa [mkManyResult, mkMirrorS_length, mkNet, mkTape, marksM_length, marks_length] using m1_2
  · simpa [mkManyResult, mkMirrorS_length, mkNet, mkTape, marksM_length, marks_length] using m1_3
set_option maxHeartbeats 1000000 in
theorem heldManyResult_rd (v : Value) (x : MManyResult) (k : Int) (w : World) (hv : RdManyResult w v (mkManyResult k x)) (hk : 0 ≤ k) (hk' : k + (cntManyResult x : Nat) ≤ 536870912) :
    Calls Tryz.prog 26 #[v, .int .i64 k] w fun e w' => e = .returned (.int .i64 (k + (cntManyResult x : Nat))) ∧ Below w.heap.size w w' := by
  obtain ⟨p0, c0, p1, c1, p2, c2, p3, c3, rfl, h0, h1, h2, h3⟩ := hv
  have X0 := Blk.new w 58 #[.int .i64 (mkManyResult k x).xCode, .slice p0 (mkManyResult k x).xMirrors.length c0, .slice p1 (mkManyResult k x).xNet.xTape.length c1, .slice p2 (mkManyResult k x).xNet.xUsed.length c2, .int .i64 (mkManyResult k x).xNet.xSent, .slice p3 (mkManyResult k x).xNet.xHeard.length c3, .int .i64 (mkManyResult k x).xNet.xCheat.xWho, .int .i64 (mkManyResult k x).xNet.xCheat.xAt, .int .i64 (mkManyResult k x).xNet.xCheat.xBy, .bool (mkManyResult k x).xNet.xCheat.xCry, .bool (mkManyResult k x).xNet.xQuarrel.xSome, .int .i64 (mkManyResult k x).xNet.xQuarrel.xFrom, .int .i64 (mkManyResult k x).xNet.xQuarrel.xCheck, .int .i64 (mkManyResult k x).xNet.xQuarrel.xTo, .int .i64 (mkManyResult k x).xNet.xQuarrel.xTold, .int .i64 (mkManyResult k x).xNet.xQuarrel.xHeard, .int .i64 (mkManyResult k x).xNet.xQuarrel.xOther, .int .i64 (mkManyResult k x).xNet.xQuarrel.xVowed]
  have B0 : Below w.heap.size w (w.alloc (.cells #[.int .i64 (mkManyResult k x).xCode, .slice p0 (mkManyResult k x).xMirrors.length c0, .slice p1 (mkManyResult k x).xNet.xTape.length c1, .slice p2 (mkManyResult k x).xNet.xUsed.length c2, .int .i64 (mkManyResult k x).xNet.xSent, .slice p3 (mkManyResult k x).xNet.xHeard.length c3, .int .i64 (mkManyResult k x).xNet.xCheat.xWho, .int .i64 (mkManyResult k x).xNet.xCheat.xAt, .int .i64 (mkManyResult k x).xNet.xCheat.xBy, .bool (mkManyResult k x).xNet.xCheat.xCry, .bool (mkManyResult k x).xNet.xQuarrel.xSome, .int .i64 (mkManyResult k x).xNet.xQuarrel.xFrom, .int .i64 (mkManyResult k x).xNet.xQuarrel.xCheck, .int .i64 (mkManyResult k x).xNet.xQuarrel.xTo, .int .i64 (mkManyResult k x).xNet.xQuarrel.xTold, .int .i64 (mkManyResult k x).xNet.xQuarrel.xHeard, .int .i64 (mkManyResult k x).xNet.xQuarrel.xOther, .int .i64 (mkManyResult k x).xNet.xQuarrel.xVowed] 58)) := (by repeat (first | exact Below.refl _ _ | refine Below.drew ?_ | refine below_drewN ?_ _ | refine Below.setCell ?_ (by first | omega | (simp; done) | (simp; omega)) _ | refine Below.alloc ?_ (by first | omega | (simp; done) | (simp; omega)) _))
  replace h0 := h0.below B0
  replace h1 := h1.below B0
  replace h2 := h2.below B0
  replace h3 := h3.below B0
  have HC : Hid (cntManyResult x = cntMirrorS x.xMirrors + cntNet x.xNet) := rfl
  have hk'' := hk'
  rw [HC.out] at hk''
  clear hk'
  go_enter Tryz.func26, Tryz.ntmps26
  go_wp2_with fail
  refine (heldMirrorS_rd _ x.xMirrors _ _ (by exact h0) (by omega) (by omega)).mono ?_
  rintro e w1 ⟨rfl, hb1⟩
  have X1 := X0.keep hb1
  have B1 : Below w.heap.size w w1 := B0.trans (hb1.mono B0.size)
  replace h1 := h1.below hb1
  replace h2 := h2.below hb1
  replace h3 := h3.below hb1
  have xa := X1.at.1
  go_wp2_with fail
  clear xa
  refine (heldNet_rd _ x.xNet _ _ (by exact ⟨p1, c1, p2, c2, p3, c3, rfl, h1, h2, h3⟩) (by omega) (by omega)).mono ?_
  rintro e w2 ⟨rfl, hb2⟩
  have B2 : Below w.heap.size w w2 := B1.trans (hb2.mono B1.size)
  go_wp2
  go_ret
  exact ⟨by rw [HC.out]; go_num, B2⟩
end Go.Proofs.YtepobckhfodngaoGreat
