/-
  Cosines of angles that differ by parts of a turn (no walk).
-/
import Derived.Test.YtmjbeplcabomdaaSq
namespace Go.Proofs.Ytmjbeplcabomdaa
set_option linter.unusedSimpArgs false
open Go.RowKit
set_option linter.unusedVariables false

theorem fo_spec (a : Int) (n : Nat) (h : 1 ≤ n) : foN a n ≤ 2 * n ∧ ∃ j : Int, a = 4 * n * j + foN a n ∨ a = 4 * n * j - foN a n := by
  have hr : a.natAbs % (4 * n) < 4 * n := Nat.mod_lt _ (by omega)
  have he := Nat.div_add_mod a.natAbs (4 * n)
  refine ⟨by unfold foN; omega, ?_⟩
  generalize a.natAbs / (4 * n) = q at *
  have hq : ((a.natAbs : Nat) : Int) = 4 * n * q + (a.natAbs % (4 * n) : Nat) := by
    rw [← he]
    push_cast
    simp
  have hf : foN a n = a.natAbs % (4 * n) ∨ (foN a n : Int) = 4 * n - (a.natAbs % (4 * n) : Nat) := by unfold foN; omega
  generalize a.natAbs % (4 * n) = r at *
  generalize foN a n = f at *
  have hs : a = ((a.natAbs : Nat) : Int) ∨ a = -((a.natAbs : Nat) : Int) := by omega
  rcases hs with hs | hs <;> rcases hf with hf | hf
  · exact ⟨q, Or.inl (by rw [hs, hq, hf])⟩
  · exact ⟨q + 1, Or.inr (by rw [hs, hq, hf]; grind)⟩
  · exact ⟨-q, Or.inr (by rw [hs, hq, hf]; grind)⟩
  · exact ⟨-(q + 1), Or.inl (by rw [hs, hq, hf]; grind)⟩
/-- A multiple of m that is less than m is 0. -/
theorem mult_small {m x j : Int} (hm : 0 < m) (h : x = m * j) (h1 : -m < x) (h2 : x < m) : x = 0 := by
  rcases Int.lt_trichotomy j 0 with h0 | h0 | h0
  · have := Int.mul_le_mul_of_nonneg_left (show j ≤ -1 by omega) (show 0 ≤ m by omega)
    omega
  · subst h0; omega
  · have := Int.mul_le_mul_of_nonneg_left (show 1 ≤ j by omega) (show 0 ≤ m by omega)
    omega
theorem fo_uniq (a : Int) (n f : Nat) (h : 1 ≤ n) (hf : f ≤ 2 * n) (hj : ∃ j : Int, a = 4 * n * j + f ∨ a = 4 * n * j - f) : foN a n = f := by
  obtain ⟨g1, i, hi⟩ := fo_spec a n h
  obtain ⟨j, hj⟩ := hj
  generalize foN a n = g at *
  have hm : (0 : Int) < 4 * n := by omega
  rcases hi with hi | hi <;> rcases hj with hj | hj
  · have := mult_small (x := (g : Int) - f) (j := j - i) hm (by grind) (by omega) (by omega); omega
  · by_cases e : (g : Int) + f < 4 * n
    · have := mult_small (x := (g : Int) + f) (j := j - i) hm (by grind) (by omega) (by omega); omega
    · omega
  · by_cases e : (g : Int) + f < 4 * n
    · have := mult_small (x := (g : Int) + f) (j := i - j) hm (by grind) (by omega) (by omega); omega
    · omega
  · have := mult_small (x := (f : Int) - g) (j := j - i) hm (by grind) (by omega) (by omega); omega
/-- Whole turns change nothing. -/
theorem fo_turn (a t : Int) (n : Nat) (h : 1 ≤ n) : foN (a + 4 * n * t) n = foN a n := by
  obtain ⟨g1, j, hj⟩ := fo_spec a n h
  refine fo_uniq _ n _ h g1 ⟨j + t, ?_⟩
  rcases hj with hj | hj
  · exact Or.inl (by grind)
  · exact Or.inr (by grind)
end Go.Proofs.Ytmjbeplcabomdaa
