/-
  Plain numbers: the choice that the reference makes.
-/
import Derived.Test.YtbckjccbihnlnaaFnt
namespace Go.Proofs.Ytbckjccbihnlnaa
open Go.RowKit
set_option linter.unusedVariables false

theorem pick_hi {N D n p1 q1 r1 p2 q2 r2 : Int} (h : Nb N D n 1 p1 q1 r1 p2 q2 r2) (hD : 1 ≤ D) : (r1 * q2 ≤ r2 * q1 → bestP N D n p1 q1) ∧ (¬ r1 * q2 ≤ r2 * q1 → bestP N D n p2 q2) := by
  obtain ⟨sg, det, f1, f2, a1, a2, b1, b2, c, d1, d2, s, x1, x2⟩ := h
  have g1 : absI (N * q1 - p1 * D) = r1 := by unfold absI; omega
  have g2 : absI (N * q2 - p2 * D) = r2 := by unfold absI; omega
  have best := fun p q hc => best_of N D n p1 q1 p2 q2 p q hD a1 a2 b1 b2 det (by omega) (by omega) (by omega) hc
  rw [g1, g2] at best
  exact ⟨fun k => best _ _ (Or.inl ⟨rfl, rfl, k⟩), fun k => best _ _ (Or.inr ⟨rfl, rfl, by omega⟩)⟩
theorem pick_lo {N D n p1 q1 r1 p2 q2 r2 : Int} (h : Nb N D n (-1) p1 q1 r1 p2 q2 r2) (hD : 1 ≤ D) : (r2 * q1 ≤ r1 * q2 → bestP N D n p2 q2) ∧ (¬ r2 * q1 ≤ r1 * q2 → bestP N D n p1 q1) := by
  obtain ⟨sg, det, f1, f2, a1, a2, b1, b2, c, d1, d2, s, x1, x2⟩ := h
  have g1 : absI (N * q1 - p1 * D) = r1 := by unfold absI; omega
  have g2 : absI (N * q2 - p2 * D) = r2 := by unfold absI; omega
  have best := fun p q hc => best_of N D n p2 q2 p1 q1 p q hD a2 a1 b2 b1 (by omega) (by omega) (by omega) (by omega) hc
  rw [g1, g2] at best
  exact ⟨fun k => best _ _ (Or.inl ⟨rfl, rfl, k⟩), fun k => best _ _ (Or.inr ⟨rfl, rfl, by omega⟩)⟩
theorem wrap_diff (a b c : Int) (h : a - b = c) (h0 : -9223372036854775808 ≤ c) (h1 : c ≤ 9223372036854775807) : wrap64 (wrap64 a - wrap64 b) = c ∧ wrap64 (a - b) = c ∧ wrap64 (wrap64 a - b) = c ∧ wrap64 (a - wrap64 b) = c := by
  unfold wrap64
  omega
end Go.Proofs.Ytbckjccbihnlnaa
