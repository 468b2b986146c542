/-
  What SineCircle states, of the numbers (no walk).
-/
import Derived.Test.YtmjbeplcabomdaaSl
namespace Go.Proofs.Ytmjbeplcabomdaa
set_option linter.unusedSimpArgs false
open Go.RowKit
set_option linter.unusedVariables false

theorem cs_congr {a b : Int} {n : Nat} (e : foN a n = foN b n) : csL a n = csL b n ∧ csH a n = csH b n := by
  unfold csL csH; rw [e]; exact ⟨rfl, rfl⟩
theorem cs_bd (a : Int) (n : Nat) (h1 : 1 ≤ n) (h2 : n ≤ 720) : csL a n ≤ csH a n ∧ csH a n ≤ csL a n + 1 ∧ -1000000 ≤ csL a n ∧ csH a n ≤ 1000000 := by
  have hw := ac_wid n (alN a n) h1 h2 (al_le a n h1)
  rcases cs_form a n with ⟨e1, e2⟩ | ⟨e1, e2⟩ <;> rw [e1, e2] <;> omega
theorem sq_pos {l h : Int} (h0 : 0 ≤ l) (h1 : l ≤ h) (h2 : h ≤ 1000000) : smL l h l h = l * l / 1000000 ∧ smH l h l h = (h * h + 999999) / 1000000 ∧ smE l h l h = 0 ∧ 0 ≤ l * l / 1000000 ∧ l * l / 1000000 ≤ (h * h + 999999) / 1000000 ∧ (h * h + 999999) / 1000000 ≤ 1000000 := by
  have hb : bV l h l h = true := by simp [bV, spV]; omega
  have p0 := Int.mul_nonneg h0 h0
  have p1 := Int.mul_le_mul_of_nonneg_left h1 h0
  have p2 := Int.mul_le_mul_of_nonneg_right h1 (show 0 ≤ h by omega)
  have p3 := Int.mul_comm l h
  have p4 := Int.mul_le_mul h2 h2 (show 0 ≤ h by omega) (show (0 : Int) ≤ 1000000 by omega)
  have e1 : pL l h l h = l * l / 1000000 := by unfold pL mn4 mi4; congr 1; omega
  have e2 : pH l h l h = (h * h + 999999) / 1000000 := by
    have : mx4 l h l h = h * h := by unfold mx4 ma4; omega
    unfold pH; rw [this]; omega
  have hv : spV (l * l / 1000000) ((h * h + 999999) / 1000000) = true := by simp [spV]; omega
  rw [smL, smH, smE, if_pos hb, if_pos hb, if_pos hb, e1, e2, mdL, mdH, mdE, if_pos hv, if_pos hv, if_pos hv]
  exact ⟨rfl, rfl, rfl, by omega, by omega, by omega⟩
theorem sq_opp (l h : Int) : bV (-h) (-l) (-h) (-l) = bV l h l h ∧ smL (-h) (-l) (-h) (-l) = smL l h l h ∧ smH (-h) (-l) (-h) (-l) = smH l h l h ∧ smE (-h) (-l) (-h) (-l) = smE l h l h := by
  have hs : spV (-h) (-l) = spV l h := by unfold spV; rw [decide_eq_decide]; omega
  have hb : bV (-h) (-l) (-h) (-l) = bV l h l h := by unfold bV; rw [hs]
  have e1 : mn4 (-h) (-l) (-h) (-l) = mn4 l h l h := by
    unfold mn4 mi4; rw [Int.neg_mul_neg, Int.neg_mul_neg, Int.neg_mul_neg, Int.neg_mul_neg, Int.mul_comm h l]; omega
  have e2 : mx4 (-h) (-l) (-h) (-l) = mx4 l h l h := by
    unfold mx4 ma4; rw [Int.neg_mul_neg, Int.neg_mul_neg, Int.neg_mul_neg, Int.neg_mul_neg, Int.mul_comm h l]; omega
  unfold smL smH smE pL pH
  rw [hb, e1, e2]
  exact ⟨rfl, rfl, rfl, rfl⟩
end Go.Proofs.Ytmjbeplcabomdaa
