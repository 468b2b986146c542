/-
  The theorems of sums, of whole numbers: what the steps add up to (no walk).
-/
import Derived.Test.YtmjbeplcabomdaaUa
namespace Go.Proofs.Ytmjbeplcabomdaa
set_option linter.unusedSimpArgs false
set_option linter.unusedVariables false
/-- x and y differ by at most A. -/
def near (A x y : Int) : Prop := y - A ≤ x ∧ x ≤ y + A
theorem nearB_out {x y : Int} (h : nearB x y = true) : near 100000000000000000000 x y := by
  have h' := Nat.le_of_ble_eq_true h
  have e : Int.sub x y = x - y := rfl
  rw [e] at h'
  unfold near
  omega
theorem step_out {c s p q p' q' : Int} (h : stepBq c s p q p' q' = true) : near 100000000000000000000 (1000000000000000000 * p') (c * p - s * q) ∧ near 100000000000000000000 (1000000000000000000 * q') (s * p + c * q) ∧ near 100000000000000000000 (p * p + q * q) 1000000000000000000000000000000000000 := by
  rw [stepBq, Bool.and_eq_true, Bool.and_eq_true] at h
  exact ⟨nearB_out h.1, nearB_out h.2.1, nearB_out h.2.2⟩
/-- The length of a sum is at most the sum of the lengths. -/
theorem norm_add {x y u v X Y : Int} (hX : 0 ≤ X) (hY : 0 ≤ Y) (h1 : x * x + y * y ≤ X * X) (h2 : u * u + v * v ≤ Y * Y) : (x + u) * (x + u) + (y + v) * (y + v) ≤ (X + Y) * (X + Y) := by
  have key : (x * u + y * v) * (x * u + y * v) ≤ (X * Y) * (X * Y) := by
    have e : (x * u + y * v) * (x * u + y * v) + (x * v - y * u) * (x * v - y * u) = (x * x + y * y) * (u * u + v * v) := by grind
    have n0 : 0 ≤ (x * v - y * u) * (x * v - y * u) := by
      rcases Int.le_total 0 (x * v - y * u) with h | h
      · exact Int.mul_nonneg h h
      · exact Int.mul_nonneg_of_nonpos_of_nonpos h h
    have n1 : 0 ≤ u * u + v * v := by
      have a : 0 ≤ u * u := by rcases Int.le_total 0 u with h | h
                               · exact Int.mul_nonneg h h
                               · exact Int.mul_nonneg_of_nonpos_of_nonpos h h
      have b : 0 ≤ v * v := by rcases Int.le_total 0 v with h | h
                               · exact Int.mul_nonneg h h
                               · exact Int.mul_nonneg_of_nonpos_of_nonpos h h
      omega
    have m := Int.mul_le_mul h1 h2 n1 (Int.mul_nonneg hX hX)
    have e2 : X * X * (Y * Y) = (X * Y) * (X * Y) := by grind
    omega
  have hl : x * u + y * v ≤ X * Y := by
    rcases Int.le_total (x * u + y * v) (X * Y) with h | h
    · exact h
    · have h0 := Int.mul_nonneg hX hY
      have := Int.mul_le_mul h h h0 (Int.le_trans h0 h)
      have e : (x * u + y * v) * (x * u + y * v) = (X * Y) * (X * Y) := by omega
      have : (x * u + y * v - X * Y) * (x * u + y * v + X * Y) = 0 := by grind
      rcases Int.mul_eq_zero.1 this with k | k <;> omega
  have e3 : (x + u) * (x + u) + (y + v) * (y + v) = (x * x + y * y) + (u * u + v * v) + 2 * (x * u + y * v) := by grind
  have e4 : (X + Y) * (X + Y) = X * X + Y * Y + 2 * (X * Y) := by grind
  omega
theorem abs_of_sq {x X : Int} (hX : 0 ≤ X) (h : x * x ≤ X * X) : -X ≤ x ∧ x ≤ X := by
  constructor
  · rcases Int.le_total (-X) x with k | k
    · exact k
    · have := Int.mul_le_mul (show X ≤ -x by omega) (show X ≤ -x by omega) hX (by omega)
      have e : (-x) * (-x) = x * x := Int.neg_mul_neg x x
      rw [e] at this
      have e2 : x * x = X * X := by omega
      have : (-x - X) * (-x + X) = 0 := by grind
      rcases Int.mul_eq_zero.1 this with k2 | k2 <;> omega
  · rcases Int.le_total x X with k | k
    · exact k
    · have := Int.mul_le_mul k k hX (by omega)
      have e2 : x * x = X * X := by omega
      have : (x - X) * (x + X) = 0 := by grind
      rcases Int.mul_eq_zero.1 this with k2 | k2 <;> omega
theorem sq_nn (x : Int) : 0 ≤ x * x := by
  rcases Int.le_total 0 x with h | h
  · exact Int.mul_nonneg h h
  · exact Int.mul_nonneg_of_nonpos_of_nonpos h h
theorem sq_le {x X : Int} (h1 : -X ≤ x) (h2 : x ≤ X) : x * x ≤ X * X := by
  rcases Int.le_total 0 x with h | h
  · exact Int.mul_le_mul h2 h2 h (by omega)
  · have e : (-x) * (-x) = x * x := Int.neg_mul_neg x x
    rw [← e]
    exact Int.mul_le_mul (by omega) (by omega) (by omega) (by omega)
end Go.Proofs.Ytmjbeplcabomdaa
