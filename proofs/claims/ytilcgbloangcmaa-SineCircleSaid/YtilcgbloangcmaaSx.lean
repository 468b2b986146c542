/-
  SineCircle, walked.
-/
import Derived.Test.YtilcgbloangcmaaSx1
import Derived.Test.YtilcgbloangcmaaSx2
import Derived.Test.YtilcgbloangcmaaSx3
import Derived.Test.YtilcgbloangcmaaSx4
namespace Go.Proofs.Ytilcgbloangcmaa
open Go.RowKit
set_option linter.unusedVariables false

theorem circle_main (k : Int) (n : Nat) (h1 : 1 ≤ n) (h2 : n ≤ 720) (k1 : -1000000 ≤ k) (k2 : k ≤ 1000000) (w : World) :
    Calls Try.prog 6 #[.int .i64 k, .int .i64 n] w fun x w' => x = .returned (.bool true) ∧ Below w.heap.size w w' := by
  have hn : nOk (n : Int) = true := by simp [nOk]; omega
  have hT : ((n : Int)).toNat = n := by omega
  have G1 : coL k n = csL (4 * k.tmod n) n := by rw [coL, if_pos hn, hT]
  have G2 : coH k n = csH (4 * k.tmod n) n := by rw [coH, if_pos hn, hT]
  have G3 : siL k n = csL (4 * k.tmod n - n) n := by rw [siL, if_pos hn, hT]
  have G4 : siH k n = csH (4 * k.tmod n - n) n := by rw [siH, if_pos hn, hT]
  obtain ⟨c1, c2, c3, c4⟩ := cs_bd (4 * k.tmod n) n h1 h2
  obtain ⟨s1, s2, s3, s4⟩ := cs_bd (4 * k.tmod n - n) n h1 h2
  have e1 := both_eq (4 * k.tmod n) n h1 h2
  have e2 := one_eq (4 * k.tmod n) n h1 h2
  rw [show 3 * (4 * k.tmod n) = 12 * k.tmod n by omega] at e2
  simp only [← G1, ← G2, ← G3, ← G4] at c1 s1 e1 e2
  have fin : (((12 * k.tmod n).tmod (n : Int) == 0) = true ∧ ((4 * k.tmod n).tmod (n : Int) == 0) = true ∧ (coL k n == coH k n) = true ∧ (siL k n == siH k n) = true) ∨ (((12 * k.tmod n).tmod (n : Int) == 0) = true ∧ ((4 * k.tmod n).tmod (n : Int) == 0) = false ∧ (coL k n == coH k n) = true ∧ (siL k n == siH k n) = false) ∨ (((12 * k.tmod n).tmod (n : Int) == 0) = true ∧ ((4 * k.tmod n).tmod (n : Int) == 0) = false ∧ (coL k n == coH k n) = false) ∨ (((12 * k.tmod n).tmod (n : Int) == 0) = false ∧ (coL k n == coH k n) = false ∧ decide (coL k n < coH k n) = true ∧ decide (siL k n < siH k n) = true) := by
    simp only [beq_iff_eq, beq_eq_false_iff_ne, decide_eq_true_eq, ne_eq, ← Int.dvd_iff_tmod_eq_zero]
    by_cases u : (n : Int) ∣ 12 * k.tmod n
    · by_cases v : (n : Int) ∣ 4 * k.tmod n
      · exact Or.inl ⟨u, v, (e1.2 v).1, (e1.2 v).2⟩
      · by_cases x : coL k n = coH k n
        · exact Or.inr (Or.inl ⟨u, v, x, fun y => v (e1.1 ⟨x, y⟩)⟩)
        · exact Or.inr (Or.inr (Or.inl ⟨u, v, x⟩))
    · have x : ¬ coL k n = coH k n := fun x => u (e2 (Or.inl x))
      have y : ¬ siL k n = siH k n := fun y => u (e2 (Or.inr y))
      exact Or.inr (Or.inr (Or.inr ⟨u, x, by omega, by omega⟩))
  rcases fin with f | f | f | f
  · exact circle_1 k n h1 h2 k1 k2 f w
  · exact circle_2 k n h1 h2 k1 k2 f w
  · exact circle_3 k n h1 h2 k1 k2 f w
  · exact circle_4 k n h1 h2 k1 k2 f w
end Go.Proofs.Ytilcgbloangcmaa
