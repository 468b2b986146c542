/-
  Cosines of angles that differ by parts of a turn (no walk).  What SineCircle states, of the numbers (no walk).
-/
import Derived.Test.YtmjbeplcabomdaaSq
namespace Go.Proofs.Ytmjbeplcabomdaa
set_option linter.unusedSimpArgs false
open Go.RowKit
set_option linter.unusedVariables false

theorem fo_spec (a : Int) (n : Nat) (h : 1 ≤ n) : foN a n ≤ 2 * n ∧ ∃ j : Int, a = 4 * n * j + foN a n ∨ a = 4 * n * j - foN a n := by
  have hr : a.natAbs % (4 * n) < 4 * n := Nat.mod_lt _ (by omega)
  have he := Nat.div_add_mod a.natAbs (4 * n)
  refine ⟨by unfold foN; omega, ?_⟩
  generalize a.natAbs / (4 * n) = q at *
  have hq : ((a.natAbs : Nat) : Int) = 4 * n * q + (a.natAbs % (4 * n) : Nat) := by
    rw [← he]
    push_cast
    simp
  have hf : foN a n = a.natAbs % (4 * n) ∨ (foN a n : Int) = 4 * n - (a.natAbs % (4 * n) : Nat) := by unfold foN; omega
  generalize a.natAbs % (4 * n) = r at *
  generalize foN a n = f at *
  have hs : a = ((a.natAbs : Nat) : Int) ∨ a = -((a.natAbs : Nat) : Int) := by omega
  rcases hs with hs | hs <;> rcases hf with hf | hf
  · exact ⟨q, Or.inl (by rw [hs, hq, hf])⟩
  · exact ⟨q + 1, Or.inr (by rw [hs, hq, hf]; grind)⟩
  · exact ⟨-q, Or.inr (by rw [hs, hq, hf]; grind)⟩
  · exact ⟨-(q + 1), Or.inl (by rw [hs, hq, hf]; grind)⟩
/-- A multiple of m that is less than m is 0. -/
theorem mult_small {m x j : Int} (hm : 0 < m) (h : x = m * j) (h1 : -m < x) (h2 : x < m) : x = 0 := by
  rcases Int.lt_trichotomy j 0 with h0 | h0 | h0
  · have := Int.mul_le_mul_of_nonneg_left (show j ≤ -1 by omega) (show 0 ≤ m by omega)
    omega
  · subst h0; omega
  · have := Int.mul_le_mul_of_nonneg_left (show 1 ≤ j by omega) (show 0 ≤ m by omega)
    omega
theorem fo_uniq (a : Int) (n f : Nat) (h : 1 ≤ n) (hf : f ≤ 2 * n) (hj : ∃ j : Int, a = 4 * n * j + f ∨ a = 4 * n * j - f) : foN a n = f := by
  obtain ⟨g1, i, hi⟩ := fo_spec a n h
  obtain ⟨j, hj⟩ := hj
  generalize foN a n = g at *
  have hm : (0 : Int) < 4 * n := by omega
  rcases hi with hi | hi <;> rcases hj with hj | hj
  · have := mult_small (x := (g : Int) - f) (j := j - i) hm (by grind) (by omega) (by omega); omega
  · by_cases e : (g : Int) + f < 4 * n
    · have := mult_small (x := (g : Int) + f) (j := j - i) hm (by grind) (by omega) (by omega); omega
    · omega
  · by_cases e : (g : Int) + f < 4 * n
    · have := mult_small (x := (g : Int) + f) (j := i - j) hm (by grind) (by omega) (by omega); omega
    · omega
  · have := mult_small (x := (f : Int) - g) (j := j - i) hm (by grind) (by omega) (by omega); omega
/-- Whole turns change nothing. -/
theorem fo_turn (a t : Int) (n : Nat) (h : 1 ≤ n) : foN (a + 4 * n * t) n = foN a n := by
  obtain ⟨g1, j, hj⟩ := fo_spec a n h
  refine fo_uniq _ n _ h g1 ⟨j + t, ?_⟩
  rcases hj with hj | hj
  · exact Or.inl (by grind)
  · exact Or.inr (by grind)
/-- The part of at most a quarter of a turn. -/
def alN (a : Int) (n : Nat) : Nat := if n < foN a n then 2 * n - foN a n else foN a n
theorem al_le (a : Int) (n : Nat) (h : 1 ≤ n) : alN a n ≤ n := by
  obtain ⟨g1, _⟩ := fo_spec a n h
  unfold alN; split <;> omega
theorem cs_form (a : Int) (n : Nat) : (csL a n = (acL (alN a n) n : Nat) ∧ csH a n = (acH (alN a n) n : Nat)) ∨ (csL a n = -((acH (alN a n) n : Nat) : Int) ∧ csH a n = -((acL (alN a n) n : Nat) : Int)) := by
  unfold csL csH alN
  by_cases k : n < foN a n
  · right; rw [if_pos k, if_pos k, if_pos k]; exact ⟨rfl, rfl⟩
  · left; rw [if_neg k, if_neg k, if_neg k]; exact ⟨rfl, rfl⟩
end Go.Proofs.Ytmjbeplcabomdaa
namespace Go.Proofs.Ytmjbeplcabomdaa
set_option linter.unusedSimpArgs false
open Go.RowKit
set_option linter.unusedVariables false

theorem cs_congr {a b : Int} {n : Nat} (e : foN a n = foN b n) : csL a n = csL b n ∧ csH a n = csH b n := by
  unfold csL csH; rw [e]; exact ⟨rfl, rfl⟩
theorem cs_bd (a : Int) (n : Nat) (h1 : 1 ≤ n) (h2 : n ≤ 720) : csL a n ≤ csH a n ∧ csH a n ≤ csL a n + 1 ∧ -1000000 ≤ csL a n ∧ csH a n ≤ 1000000 := by
  have hw := ac_wid n (alN a n) h1 h2 (al_le a n h1)
  rcases cs_form a n with ⟨e1, e2⟩ | ⟨e1, e2⟩ <;> rw [e1, e2] <;> omega
end Go.Proofs.Ytmjbeplcabomdaa
