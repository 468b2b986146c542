/-
  Plain numbers: convergents, and the fractions next to a number.
-/
import Derived.Test.YtbckjccbihnlnaaFg
namespace Go.Proofs.Ytbckjccbihnlnaa
set_option linter.unusedVariables false

/-- Two neighbours on both sides of N / D with denominators of at most n, and their distances (over D). -/
structure Nr (N D n e p0 q0 r0 p1 q1 r1 : Int) : Prop where
  sg : e = 1 ∨ e = -1
  det : p1 * q0 - p0 * q1 = -e
  f0 : r0 = -e * (N * q0 - p0 * D)
  f1 : r1 = e * (N * q1 - p1 * D)
  a0 : 0 ≤ q0
  a1 : 1 ≤ q1
  b0 : q0 ≤ n
  b1 : q1 ≤ n
  c1 : 0 ≤ r1
  c0 : r1 < r0
  d0 : r0 ≤ D

theorem Nr.start (N D n : Int) (hD : 1 ≤ D) (hn : 1 ≤ n) : Nr N D n 1 1 0 D (N / D) 1 (N % D) where
  sg := Or.inl rfl
  det := by omega
  f0 := by omega
  f1 := by have := Int.mul_ediv_add_emod N D; have e : N / D * D = D * (N / D) := Int.mul_comm _ _; omega
  a0 := by omega
  a1 := by omega
  b0 := by omega
  b1 := hn
  c1 := Int.emod_nonneg _ (by omega)
  c0 := Int.emod_lt_of_pos _ (by omega)
  d0 := by omega

theorem Nr.pos {N D n e p0 q0 r0 p1 q1 r1 : Int} (h : Nr N D n e p0 q0 r0 p1 q1 r1) (hD : 1 ≤ D) (hn : n < D) (hc : gcdI N D = 1) : 1 ≤ r1 := by
  rcases Int.lt_or_le 0 r1 with k | k
  · omega
  exfalso
  have z : r1 = 0 := by have := h.c1; omega
  have f : N * q1 - p1 * D = 0 := by
    have := h.f1
    rcases h.sg with s | s <;> rw [s] at this <;> omega
  have dv : D.natAbs ∣ q1.natAbs := by
    have : D ∣ N * q1 := ⟨p1, by have := Int.mul_comm p1 D; omega⟩
    have k := Int.natAbs_dvd_natAbs.2 this
    rw [Int.natAbs_mul] at k
    exact Nat.Coprime.dvd_of_dvd_mul_left ((cop N D).1 hc).symm k
  have := Nat.le_of_dvd (by have := h.a1; omega) dv
  have := h.b1
  have := h.a1
  omega

/-- Numerators are no greater than that of the number. -/
theorem num_bd (N D n p q r e A : Int) (hA : 1 ≤ A) (sg : e = 1 ∨ e = -1) (hr : r = e * (N * q - p * D)) (r0 : 0 ≤ r) (r1 : r ≤ D) (q0 : 0 ≤ q) (hq : q ≤ n) (hn : n < D) (hD : D ≤ A) (h0 : -A ≤ N) (h1 : N ≤ A) : -A ≤ p ∧ p ≤ A := by
  have m : -(A * q) ≤ N * q ∧ N * q ≤ A * q := by
    have a := Int.mul_le_mul_of_nonneg_right h1 q0
    have b := Int.mul_le_mul_of_nonneg_right h0 q0
    rw [Int.neg_mul] at b
    omega
  have m2 : A * q ≤ A * D - A := by
    have : A * q ≤ A * (D - 1) := Int.mul_le_mul_of_nonneg_left (by omega) (by omega)
    rw [Int.mul_sub] at this
    omega
  have m3 : -(A * D) ≤ p * D ∧ p * D ≤ A * D := by
    rcases sg with s | s <;> subst s <;> omega
  constructor
  · exact Int.le_of_mul_le_mul_right (a := D) (by rw [Int.neg_mul]; exact m3.1) (by omega)
  · exact Int.le_of_mul_le_mul_right (a := D) m3.2 (by omega)
theorem Nr.num1 {N D n e p0 q0 r0 p1 q1 r1 : Int} (h : Nr N D n e p0 q0 r0 p1 q1 r1) (A : Int) (hA : 1 ≤ A) (hn : n < D) (hD : D ≤ A) (h0 : -A ≤ N) (h1 : N ≤ A) : -A ≤ p1 ∧ p1 ≤ A := by
  have := h.c0; have := h.d0; have := h.a1
  exact num_bd N D n p1 q1 r1 e A hA h.sg h.f1 h.c1 (by omega) (by omega) h.b1 hn hD h0 h1
theorem Nr.num0 {N D n e p0 q0 r0 p1 q1 r1 : Int} (h : Nr N D n e p0 q0 r0 p1 q1 r1) (A : Int) (hA : 1 ≤ A) (hn : n < D) (hD : D ≤ A) (h0 : -A ≤ N) (h1 : N ≤ A) : -A ≤ p0 ∧ p0 ≤ A := by
  have := h.c0; have := h.c1
  exact num_bd N D n p0 q0 r0 (-e) A hA (by have := h.sg; omega) h.f0 (by omega) h.d0 h.a0 h.b0 hn hD h0 h1

theorem Nr.prod {N D n e p0 q0 r0 p1 q1 r1 : Int} (h : Nr N D n e p0 q0 r0 p1 q1 r1) : r0 * q1 + r1 * q0 = D := by
  rw [h.f0, h.f1]
  have d := h.det
  rcases h.sg with s | s <;> subst s <;> grind

theorem Nr.step {N D n e p0 q0 r0 p1 q1 r1 : Int} (h : Nr N D n e p0 q0 r0 p1 q1 r1) (hr : 1 ≤ r1) (k : Int) (hk : k = r0 / r1) (hle : k ≤ (n - q0) / q1) :
    Nr N D n (-e) p1 q1 r1 (p0 + k * p1) (q0 + k * q1) (r0 - k * r1) ∧ r0 - k * r1 = r0 % r1 ∧ 0 ≤ k * q1 ∧ 0 ≤ k * r1 ∧ 1 ≤ k := by
  have h1 := h.a1; have h2 := h.c0; have h3 := h.d0; have h4 := h.a0; have h5 := h.b0; have h6 := h.b1
  have k1 : 1 ≤ k := by
    rw [hk]
    have := Int.le_ediv_of_mul_le (c := r1) (a := 1) (b := r0) (by omega) (by omega)
    omega
  have e1 := Int.mul_ediv_add_emod r0 r1
  rw [← hk] at e1
  have e2 : r1 * k = k * r1 := Int.mul_comm _ _
  have e3 := Int.emod_nonneg r0 (show r1 ≠ 0 by omega)
  have e4 := Int.emod_lt_of_pos r0 (show 0 < r1 by omega)
  have e5 : k * q1 ≤ n - q0 := by
    have := Int.mul_le_of_le_ediv (show 0 < q1 by omega) hle
    omega
  have e6 : q1 ≤ k * q1 := one_le_mul k1 h1
  have e7 : r1 ≤ k * r1 := one_le_mul k1 hr
  refine ⟨⟨by have := h.sg; omega, ?_, ?_, ?_, by omega, by omega, by omega, by omega, by omega, by omega, by omega⟩, by omega, by omega, by omega, k1⟩
  · have d := h.det
    have : (p0 + k * p1) * q1 - p1 * (q0 + k * q1) = -(p1 * q0 - p0 * q1) := by grind
    omega
  · rw [h.f1]; grind
  · have a := h.f0; have b := h.f1
    rw [a, b]; grind

/-- Where the next convergent's denominator is too great. -/
theorem Nr.last {N D n e p0 q0 r0 p1 q1 r1 : Int} (h : Nr N D n e p0 q0 r0 p1 q1 r1) (hr : 1 ≤ r1) (k : Int) (hk : k = (n - q0) / q1) (hlt : k < r0 / r1) :
    (-e = 1 ∨ -e = -1) ∧ (p0 + k * p1) * q1 - p1 * (q0 + k * q1) = e ∧ r0 - k * r1 = -e * (N * (q0 + k * q1) - (p0 + k * p1) * D) ∧ 0 ≤ k ∧ 1 ≤ q0 + k * q1 ∧ q0 + k * q1 ≤ n ∧ n < q0 + k * q1 + q1 ∧ r1 ≤ r0 - k * r1 ∧ 0 ≤ k * q1 ∧ 0 ≤ k * r1 ∧ (r0 - k * r1) * q1 + r1 * (q0 + k * q1) = D := by
  have h1 := h.a1; have h2 := h.c0; have h3 := h.d0; have h4 := h.a0; have h5 := h.b0; have h6 := h.b1
  have k0 : 0 ≤ k := by rw [hk]; exact Int.ediv_nonneg (by omega) (by omega)
  have e1 := Int.mul_ediv_add_emod (n - q0) q1
  rw [← hk] at e1
  have e2 : q1 * k = k * q1 := Int.mul_comm _ _
  have e3 := Int.emod_nonneg (n - q0) (show q1 ≠ 0 by omega)
  have e4 := Int.emod_lt_of_pos (n - q0) (show 0 < q1 by omega)
  have e5 : (k + 1) * r1 ≤ r0 := Int.mul_le_of_le_ediv (show 0 < r1 by omega) (by omega)
  rw [Int.add_mul] at e5
  have m1 := Int.mul_nonneg k0 (show 0 ≤ q1 by omega)
  have m2 := Int.mul_nonneg k0 (show 0 ≤ r1 by omega)
  refine ⟨by have := h.sg; omega, ?_, ?_, k0, by omega, by omega, by omega, by omega, m1, m2, ?_⟩
  · have d := h.det
    have : (p0 + k * p1) * q1 - p1 * (q0 + k * q1) = -(p1 * q0 - p0 * q1) := by grind
    omega
  · have a := h.f0; have b := h.f1
    rw [a, b]; grind
  · have := h.prod
    have e : (r0 - k * r1) * q1 + r1 * (q0 + k * q1) = r0 * q1 + r1 * q0 := by grind
    omega

/-- The expansion of a number. -/
def exL (x y : Int) : List Int := if h : y ≤ 0 then [] else x / y :: exL y (x % y)
termination_by y.toNat
decreasing_by
  have := Int.emod_lt_of_pos x (show 0 < y by omega)
  have := Int.emod_nonneg x (show y ≠ 0 by omega)
  omega
theorem exL_cons (x y : Int) (h : 1 ≤ y) : exL x y = x / y :: exL y (x % y) := by rw [exL]; rw [dif_neg (by omega)]
theorem exL_nil (x : Int) : exL x 0 = [] := by rw [exL]; rw [dif_pos (by omega)]
end Go.Proofs.Ytbckjccbihnlnaa
