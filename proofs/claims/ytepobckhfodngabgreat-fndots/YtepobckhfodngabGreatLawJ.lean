/-
  The plain part of FnJoints: where one hears two things, or cries out, one of the two that are told apart is the one who cheats. Nothing of the program is named here.
-/
import Derived.Test.YtepobckhfodngabGreatJnY
import Derived.Test.YtepobckhfodngabGreatJnT
namespace Go.Proofs.YtepobckhfodngabGreat
open Go.ChangeShapes Go.WideShapes Go.ChangeAt Go.RowKit
set_option linter.unusedVariables false

theorem tell_either (c : MCheat) (q s who v : Int) : tellV c q s who v = v ∨ c.xWho = who := by
  unfold tellV
  split
  · rename_i h; exact .inr h.1
  · exact .inl rfl
/-- no quarrel: what was heard is what was to be told -/
theorem quiet_value {x : MNet} {q fm ck tt a : Int} (h3 : Three fm ck tt) (hx : x.xQuarrel.xSome = false) (hs : (quarN x q fm ck tt a a).xSome = false) : uT x q fm a = a := by
  unfold quarN at hs
  split at hs
  · rename_i h
    rcases tell_either x.xCheat q x.xSent fm a with e | e
    · exact e
    · rcases tell_either x.xCheat q (x.xSent + 1) ck a with e' | e'
      · exact h.1.trans e'
      · exact absurd (e.symm.trans e') h3.2.2.2.1
  · cases hs
/-- a quarrel: who cheats is one of the two -/
theorem quarrel_who {x : MNet} {q fm ck tt a : Int} (h3 : Three fm ck tt) (hx : x.xQuarrel.xSome = false) (hs : (quarN x q fm ck tt a a).xSome = true) :
    (judgeR (quarN x q fm ck tt a a)).xCode = 0 ∧ (x.xCheat.xWho = (judgeR (quarN x q fm ck tt a a)).xFirst ∨ x.xCheat.xWho = (judgeR (quarN x q fm ck tt a a)).xSecond) ∧ 0 ≤ x.xCheat.xWho := by
  have hn : ¬ (uT x q fm a = vT x q ck a ∧ cryB x.xCheat tt x.xSent = false) := by
    intro h
    unfold quarN at hs
    rw [if_pos h, hx] at hs
    cases hs
  have hz : quarN x q fm ck tt a a = claimZ x.xCheat q ⟨true, fm, ck, tt, a, uT x q fm a, vT x q ck a, a⟩ := by unfold quarN; rw [if_neg hn]
  rw [hz]
  have hu := tell_either x.xCheat q x.xSent fm a
  have hv := tell_either x.xCheat q (x.xSent + 1) ck a
  have hc : cryB x.xCheat tt x.xSent = true → x.xCheat.xWho = tt := by
    intro h
    unfold cryB at h
    simp at h
    exact h.2.1.symm
  have hcf : cryB x.xCheat tt x.xSent = true ∨ cryB x.xCheat tt x.xSent = false := by cases cryB x.xCheat tt x.xSent <;> simp
  change uT x q fm a = a ∨ _ at hu
  change vT x q ck a = a ∨ _ at hv
  generalize uT x q fm a = u at *
  generalize vT x q ck a = v at *
  generalize cryB x.xCheat tt x.xSent = cr at *
  have h3' := h3
  obtain ⟨⟨a0, a1⟩, ⟨b0, b1⟩, ⟨c0, c1⟩, d1, d2, d3⟩ := h3
  have hj : judgeR (claimZ x.xCheat q ⟨true, fm, ck, tt, a, u, v, a⟩) = ⟨0, mn (qA (claimZ x.xCheat q ⟨true, fm, ck, tt, a, u, v, a⟩)) (qB (claimZ x.xCheat q ⟨true, fm, ck, tt, a, u, v, a⟩)), mx (qA (claimZ x.xCheat q ⟨true, fm, ck, tt, a, u, v, a⟩)) (qB (claimZ x.xCheat q ⟨true, fm, ck, tt, a, u, v, a⟩))⟩ := judgeR_in rfl h3'
  rw [hj]
  have key : x.xCheat.xWho = qA (claimZ x.xCheat q ⟨true, fm, ck, tt, a, u, v, a⟩) ∨ x.xCheat.xWho = qB (claimZ x.xCheat q ⟨true, fm, ck, tt, a, u, v, a⟩) := by
    unfold qA qB claimZ standV
    dsimp only
    generalize x.xCheat.xWho = who at *
    generalize (u + x.xCheat.xBy) % q = hb
    rcases hu with hu | hu
    · rcases hv with hv | hv
      · subst hu hv
        have hw : who = tt := by
          rcases hcf with h | h
          · exact hc h
          · exact absurd ⟨rfl, h⟩ hn
        subst hw
        left
        rw [if_neg (fun h => h.2.2 (by rw [if_neg (fun k => d2 k.1.symm), if_neg (fun k => d3 k.1.symm)]))]
      · subst hv hu
        have hcr : cr = false := by
          rcases hcf with h | h
          · exact absurd (hc h) d3
          · exact h
        have huv : ¬ u = v := fun h => hn ⟨h, hcr⟩
        right
        by_cases hcry : x.xCheat.xCry = true
        · rw [if_pos]
          rw [if_neg d3, if_neg (fun k => d1 k.1.symm), if_pos ⟨rfl, hcry⟩]
          exact ⟨rfl, .inr huv⟩
        · rw [if_pos]
          rw [if_neg d3, if_neg (fun k => d1 k.1.symm), if_neg (fun k => hcry k.2)]
          exact ⟨rfl, .inl (fun h => huv h.symm)⟩
    · subst hu
      rcases hv with hv | hv
      · subst hv
        have hcr : cr = false := by
          rcases hcf with h | h
          · exact absurd (hc h) d2
          · exact h
        have huv : ¬ u = v := fun h => hn ⟨h, hcr⟩
        by_cases hcry : x.xCheat.xCry = true
        · left
          rw [if_pos]
          rw [if_neg d2, if_pos ⟨rfl, hcry⟩, if_neg (fun k => d1 k.1)]
          exact ⟨rfl, rfl, huv⟩
        · right
          rw [if_neg]
          rw [if_neg d2, if_neg (fun k => hcry k.2)]
          exact fun h => huv h.1
      · exact absurd hv d1
  have hwho : 0 ≤ x.xCheat.xWho := by
    rcases hu with hu | hu
    · rcases hv with hv | hv
      · rcases hcf with h | h
        · rw [hc h]; exact c0
        · exact absurd ⟨hu.trans hv.symm, h⟩ hn
      · rw [hv]; exact b0
    · rw [hu]; exact a0
  refine ⟨rfl, ?_, hwho⟩
  dsimp only
  unfold mn mx
  generalize qA (claimZ x.xCheat q ⟨true, fm, ck, tt, a, u, v, a⟩) = A at *
  generalize qB (claimZ x.xCheat q ⟨true, fm, ck, tt, a, u, v, a⟩) = B at *
  split <;> split <;> omega
end Go.Proofs.YtepobckhfodngabGreat
