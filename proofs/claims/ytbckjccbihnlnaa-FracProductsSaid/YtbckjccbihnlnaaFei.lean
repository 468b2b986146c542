/-
  Plain numbers: how long expansions are.
-/
import Derived.Test.YtbckjccbihnlnaaFh
namespace Go.Proofs.Ytbckjccbihnlnaa
set_option linter.unusedVariables false

theorem exL_len (k : Nat) : ∀ x y : Int, 0 ≤ y → y < (2 ^ k : Nat) → (exL x y).length ≤ 2 * k := by
  induction k with
  | zero =>
    intro x y h0 h1
    have : y = 0 := by simp at h1; omega
    subst this
    rw [exL_nil]; simp
  | succ k ih =>
    intro x y h0 h1
    by_cases hy : y = 0
    · subst hy; rw [exL_nil]; simp
    · rw [exL_cons x y (by omega)]
      have r0 := Int.emod_nonneg x hy
      have r1 := Int.emod_lt_of_pos x (show 0 < y by omega)
      by_cases hr : x % y = 0
      · rw [hr, exL_nil]; simp; omega
      · rw [exL_cons y (x % y) (by omega)]
        have s0 := Int.emod_nonneg y hr
        have s1 := Int.emod_lt_of_pos y (show 0 < x % y by omega)
        have s2 := Int.mul_ediv_add_emod y (x % y)
        have s3 : 1 ≤ y / (x % y) := Int.le_ediv_of_mul_le (by omega) (by omega)
        have s4 := one_le_mul s3 (show 1 ≤ x % y by omega)
        rw [Int.mul_comm] at s4
        have := ih (x % y) (y % (x % y)) s0 (by rw [Nat.pow_succ] at h1; omega)
        simp only [List.length_cons]
        omega
theorem exL_120 (x y : Int) (h0 : 0 ≤ y) (h1 : y ≤ 1000000000000000000) : (exL x y).length ≤ 120 := exL_len 60 x y h0 (by simp; omega)
end Go.Proofs.Ytbckjccbihnlnaa
