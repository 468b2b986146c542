/-
  Plain numbers: a digit is divided bit by bit.
-/
import Derived.Test.YtmjbeplcabomdaaFde
namespace Go.Proofs.Ytmjbeplcabomdaa.Dv
set_option linter.unusedVariables false

theorem and_one (x : Int) (h0 : 0 ≤ x) (h1 : x < 18446744073709551616) : bits .and .u64 x 1 = x % 2 := by
  have h := bits_and_u64_nat x.toNat 1 (by omega) (by omega)
  rw [Int.toNat_of_nonneg h0, Nat.and_one_is_mod] at h
  refine Eq.trans h ?_
  omega
theorem pow_pos (j : Nat) : (0 : Int) < 2 ^ j := Int.pow_pos (by omega)
theorem ov_bit (r x : Int) (j : Nat) (r0 : 0 ≤ r) (r1 : r < 4611686018427387904) (x0 : 0 ≤ x) (x1 : x < 4294967296) :
    bits .or .u64 (r * 2) (bits .and .u64 (x / 2 ^ j) 1) = r * 2 + x / 2 ^ j % 2 := by
  have p := pow_pos j
  have e0 : 0 ≤ x / 2 ^ j := Int.ediv_nonneg x0 (by omega)
  have e1 : x / 2 ^ j ≤ x := Int.ediv_le_self _ x0
  rw [and_one _ e0 (by omega)]
  have h := or_sum r.toNat 1 (x / 2 ^ j % 2).toNat (by omega) (by omega)
  have e2 : ((r.toNat * 2 ^ 1 : Nat) : Int) = r * 2 := by omega
  have e3 : (((x / 2 ^ j % 2).toNat : Nat) : Int) = x / 2 ^ j % 2 := by omega
  rw [e2, e3] at h
  rw [h]
  omega
theorem ov_set (q : Int) (j : Nat) (q0 : 0 ≤ q) (hd : (2 : Int) ^ (j + 1) ∣ q) (hq : q + 2 ^ j < 18446744073709551616) :
    bits .or .u64 q (2 ^ j) = q + 2 ^ j := by
  obtain ⟨c, rfl⟩ := hd
  have p := pow_pos j
  have p' := pow_pos (j + 1)
  have c0 : 0 ≤ c := by
    by_cases hc : c < 0
    · have := Int.mul_neg_of_pos_of_neg p' hc
      omega
    · omega
  have h := or_sum c.toNat (j + 1) (2 ^ j) (Nat.pow_lt_pow_right (by omega) (by omega)) (by
    have e : ((c.toNat * 2 ^ (j + 1) + 2 ^ j : Nat) : Int) < ((18446744073709551616 : Nat) : Int) := by
      rw [Int.natCast_add, Int.natCast_mul, Int.natCast_pow, Int.natCast_pow, Int.toNat_of_nonneg c0, Int.mul_comm]
      exact hq
    exact Int.ofNat_lt.1 e)
  rw [Int.natCast_add, Int.natCast_mul, Int.natCast_pow, Int.natCast_pow, Int.toNat_of_nonneg c0, Int.mul_comm] at h
  exact h

/-- What holds of the digits that have been made when k bits are left. -/
def ovI (r0 x n : Int) (k : Nat) (q r : Int) : Prop :=
  0 ≤ q ∧ 0 ≤ r ∧ r < n ∧ (2 : Int) ^ k ∣ q ∧ r0 * 4294967296 + x = q * n + r * 2 ^ k + x % 2 ^ k

theorem ov_start (r0 x n : Int) (h0 : 0 ≤ r0) (h1 : r0 < n) (x0 : 0 ≤ x) (x1 : x < 4294967296) : ovI r0 x n 32 0 r0 := by
  refine ⟨by omega, h0, h1, Int.dvd_zero _, ?_⟩
  have : x % 2 ^ 32 = x := Int.emod_eq_of_lt x0 x1
  rw [this]
  omega
theorem ov_split (x : Int) (j : Nat) : x % 2 ^ (j + 1) = x / 2 ^ j % 2 * 2 ^ j + x % 2 ^ j := by
  have p := pow_pos j
  have e1 := Int.mul_ediv_add_emod x (2 ^ j)
  have e2 : x / 2 ^ j / 2 = x / 2 ^ (j + 1) := by rw [Int.ediv_ediv_of_nonneg (by omega), Int.pow_succ]
  have e3 := Int.mul_ediv_add_emod x (2 ^ (j + 1))
  have e4 := Int.mul_ediv_add_emod (x / 2 ^ j) 2
  rw [e2] at e4
  have e5 : (2 : Int) ^ (j + 1) = 2 ^ j * 2 := Int.pow_succ ..
  generalize x % 2 ^ (j + 1) = A at *
  generalize x / 2 ^ (j + 1) = B at *
  generalize x % 2 ^ j = C at *
  generalize x / 2 ^ j = D at *
  generalize D % 2 = E at *
  rw [e5] at e3
  generalize (2 : Int) ^ j = P at *
  rw [← e4] at e1
  grind
theorem ov_keep (r0 x n : Int) (j : Nat) (q r : Int) (h : ovI r0 x n (j + 1) q r) (hn : r * 2 + x / 2 ^ j % 2 < n) : ovI r0 x n j q (r * 2 + x / 2 ^ j % 2) := by
  obtain ⟨a, b, c, d, e⟩ := h
  have p := pow_pos j
  refine ⟨a, by omega, hn, Int.dvd_trans ⟨2, Int.pow_succ ..⟩ d, ?_⟩
  rw [e, ov_split x j, Int.pow_succ]
  generalize x / 2 ^ j % 2 = E
  generalize x % 2 ^ j = C
  generalize (2 : Int) ^ j = P
  grind
theorem ov_take (r0 x n : Int) (j : Nat) (q r : Int) (h : ovI r0 x n (j + 1) q r) (hn : n ≤ r * 2 + x / 2 ^ j % 2) : ovI r0 x n j (q + 2 ^ j) (r * 2 + x / 2 ^ j % 2 - n) := by
  obtain ⟨a, b, c, d, e⟩ := h
  have p := pow_pos j
  refine ⟨by omega, by omega, by omega, Int.dvd_add (Int.dvd_trans ⟨2, Int.pow_succ ..⟩ d) (Int.dvd_refl _), ?_⟩
  rw [e, ov_split x j, Int.pow_succ]
  generalize x / 2 ^ j % 2 = E
  generalize x % 2 ^ j = C
  generalize (2 : Int) ^ j = P
  grind
/-- The digit is one: it and the next bit have room. -/
theorem ov_room (r0 x n : Int) (k : Nat) (q r : Int) (h : ovI r0 x n k q r) (hr : r0 < n) (x1 : x < 4294967296) (hk : k ≤ 32) : q ≤ 4294967296 - 2 ^ k := by
  obtain ⟨a, b, c, ⟨d, hd⟩, e⟩ := h
  have p := pow_pos k
  have m0 := Int.emod_nonneg x (show (2 : Int) ^ k ≠ 0 by omega)
  have hb : 0 ≤ r * 2 ^ k := Int.mul_nonneg b (by omega)
  have h1 : q * n < 4294967296 * n := by
    have : (r0 + 1) * 4294967296 ≤ n * 4294967296 := Int.mul_le_mul_of_nonneg_right (by omega) (by omega)
    omega
  have h2 : q < 4294967296 := Int.lt_of_mul_lt_mul_right h1 (by omega)
  have e5 : (2 : Int) ^ k * 2 ^ (32 - k) = 4294967296 := by rw [← Int.pow_add, show k + (32 - k) = 32 by omega]; rfl
  have h3 : d < 2 ^ (32 - k) := by
    rw [hd, ← e5] at h2
    exact Int.lt_of_mul_lt_mul_left h2 (by omega)
  have h4 : 2 ^ k * (d + 1) ≤ 2 ^ k * 2 ^ (32 - k) := Int.mul_le_mul_of_nonneg_left (by omega) (by omega)
  rw [e5, Int.mul_add, ← hd] at h4
  omega
theorem ov_end (r0 x n q r : Int) (h : ovI r0 x n 0 q r) : q = (r0 * 4294967296 + x) / n ∧ r = (r0 * 4294967296 + x) % n := by
  obtain ⟨a, b, c, d, e⟩ := h
  have e0 : x % 2 ^ 0 = 0 := by simp [Int.emod_one]
  rw [e0] at e
  have h := digit q n (r0 * 4294967296 + x) (by omega) (by simp at e; omega) (by rw [Int.add_mul]; simp at e; omega)
  simp at e
  omega
theorem over_digits (x0 x1 x2 x3 n q0 q1 q2 q3 r0 r1 r2 r3 : Int) (hn : 0 < n) (e3 : q3 = (0 * 4294967296 + x3) / n) (f3 : r3 = (0 * 4294967296 + x3) % n)
    (e2 : q2 = (r3 * 4294967296 + x2) / n) (f2 : r2 = (r3 * 4294967296 + x2) % n) (e1 : q1 = (r2 * 4294967296 + x1) / n) (f1 : r1 = (r2 * 4294967296 + x1) % n)
    (e0 : q0 = (r1 * 4294967296 + x0) / n) (f0 : r0 = (r1 * 4294967296 + x0) % n) :
    (x0 + x1 * 4294967296 + x2 * 18446744073709551616 + x3 * 79228162514264337593543950336) / n = q0 + q1 * 4294967296 + q2 * 18446744073709551616 + q3 * 79228162514264337593543950336 ∧
    r0 = (x0 + x1 * 4294967296 + x2 * 18446744073709551616 + x3 * 79228162514264337593543950336) % n := by
  have g (q r y : Int) (e : q = y / n) (f : r = y % n) : y = n * q + r ∧ 0 ≤ r ∧ r < n := by
    subst e; subst f
    exact ⟨(Int.mul_ediv_add_emod y n).symm, Int.emod_nonneg _ (by omega), Int.emod_lt_of_pos _ hn⟩
  have h3 := g _ _ _ e3 f3
  have h2 := g _ _ _ e2 f2
  have h1 := g _ _ _ e1 f1
  have h0 := g _ _ _ e0 f0
  have k : x0 + x1 * 4294967296 + x2 * 18446744073709551616 + x3 * 79228162514264337593543950336 = (q0 + q1 * 4294967296 + q2 * 18446744073709551616 + q3 * 79228162514264337593543950336) * n + r0 := by
    have a3 := h3.1; have a2 := h2.1; have a1 := h1.1; have a0 := h0.1
    clear e3 f3 e2 f2 e1 f1 e0 f0 g h3 h2 h1 h0
    grind
  have d := digit (q0 + q1 * 4294967296 + q2 * 18446744073709551616 + q3 * 79228162514264337593543950336) n (x0 + x1 * 4294967296 + x2 * 18446744073709551616 + x3 * 79228162514264337593543950336) hn (by rw [k]; omega) (by rw [k, Int.add_mul _ 1]; omega)
  exact ⟨d.1.symm, by rw [← d.2.1, k]; omega⟩
end Go.Proofs.Ytmjbeplcabomdaa.Dv
