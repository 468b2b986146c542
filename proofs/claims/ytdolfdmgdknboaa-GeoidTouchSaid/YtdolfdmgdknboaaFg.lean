/-
  Plain numbers: the nearest fraction with a denominator that is not great.
-/
import Derived.Test.YtdolfdmgdknboaaFn
namespace Go.Proofs.Ytdolfdmgdknboaa
set_option linter.unusedVariables false

/-- p / q is of all fractions with a denominator of at most n the one nearest to N / D, and of two such the lesser one. -/
def bestP (N D n p q : Int) : Prop := 1 ≤ q ∧ q ≤ n ∧ gcdI p q = 1 ∧ ∀ u v, 1 ≤ v → v ≤ n → absI (N * q - p * D) * v < absI (N * v - u * D) * q ∨ (absI (N * q - p * D) * v = absI (N * v - u * D) * q ∧ p * v ≤ u * q)

theorem best_unique (N D n p q p' q' : Int) (h : bestP N D n p q) (k : bestP N D n p' q') : p = p' ∧ q = q' := by
  obtain ⟨h1, h2, h3, h4⟩ := h
  obtain ⟨k1, k2, k3, k4⟩ := k
  have a := h4 p' q' k1 k2
  have b := k4 p q h1 h2
  exact (frac_eq p q p' q' h1 k1 h3 k3).1 (by omega)

/-- The fraction itself, where its denominator is not too great. -/
theorem best_own (N D n : Int) (h1 : 1 ≤ D) (h2 : D ≤ n) (h3 : gcdI N D = 1) : bestP N D n N D := by
  refine ⟨h1, h2, h3, fun u v v1 vn => ?_⟩
  have e : absI (N * D - N * D) = 0 := by unfold absI; omega
  rw [e, Int.zero_mul]
  have := Int.mul_nonneg (absI_nn (N * v - u * D)) (show 0 ≤ D by omega)
  by_cases hz : absI (N * v - u * D) * D = 0
  · right
    refine ⟨hz.symm, ?_⟩
    have : absI (N * v - u * D) = 0 := by
      rcases Int.mul_eq_zero.1 hz with h | h
      · exact h
      · omega
    unfold absI at this
    omega
  · left; omega

theorem one_le_mul {a b : Int} (ha : 1 ≤ a) (hb : 1 ≤ b) : b ≤ a * b := by
  have := Int.mul_le_mul_of_nonneg_right ha (show 0 ≤ b by omega)
  omega

/-- No fraction with a small denominator lies between two neighbours. -/
theorem farey (n p0 q0 p1 q1 u v : Int) (hq0 : 1 ≤ q0) (hq1 : 1 ≤ q1) (det : p1 * q0 - p0 * q1 = 1) (v1 : 1 ≤ v) (vn : v ≤ n) (nn : n < q0 + q1) : u * q0 ≤ p0 * v ∨ p1 * v ≤ u * q1 := by
  by_cases h : u * q0 ≤ p0 * v
  · exact Or.inl h
  by_cases k : p1 * v ≤ u * q1
  · exact Or.inr k
  exfalso
  have e : v = (p1 * v - u * q1) * q0 + (u * q0 - p0 * v) * q1 := by
    have : v * (p1 * q0 - p0 * q1) = (p1 * v - u * q1) * q0 + (u * q0 - p0 * v) * q1 := by grind
    rw [det] at this; omega
  have a := one_le_mul (show 1 ≤ p1 * v - u * q1 by omega) hq0
  have b := one_le_mul (show 1 ≤ u * q0 - p0 * v by omega) hq1
  omega

/-- A fraction on the far side of x is farther away than x. -/
theorem far_lo (N D p q u v : Int) (hD : 1 ≤ D) (hq : 1 ≤ q) (hv : 1 ≤ v) (h : u * q ≤ p * v) (hx : 0 ≤ N * q - p * D) :
    absI (N * q - p * D) * v < absI (N * v - u * D) * q ∨ (absI (N * q - p * D) * v = absI (N * v - u * D) * q ∧ u * q = p * v) := by
  have e : (N * v - u * D) * q = (N * q - p * D) * v + (p * v - u * q) * D := by grind
  have m1 := Int.mul_nonneg (show 0 ≤ p * v - u * q by omega) (show 0 ≤ D by omega)
  have m2 := Int.mul_nonneg hx (show 0 ≤ v by omega)
  have s : 0 ≤ N * v - u * D := by
    rcases Int.lt_or_le (N * v - u * D) 0 with hh | hh
    · have := Int.mul_neg_of_neg_of_pos hh (show 0 < q by omega); omega
    · exact hh
  rw [absI_of _ hx, absI_of _ s, e]
  by_cases z : u * q = p * v
  · right; refine ⟨?_, z⟩; rw [z]; simp
  · left
    have := Int.mul_pos (show 0 < p * v - u * q by omega) (show 0 < D by omega)
    omega
theorem absI_neg (x : Int) : absI (-x) = absI x := by unfold absI; omega
theorem far_hi (N D p q u v : Int) (hD : 1 ≤ D) (hq : 1 ≤ q) (hv : 1 ≤ v) (h : p * v ≤ u * q) (hx : N * q - p * D ≤ 0) :
    absI (N * q - p * D) * v < absI (N * v - u * D) * q ∨ (absI (N * q - p * D) * v = absI (N * v - u * D) * q ∧ u * q = p * v) := by
  have k := far_lo (-N) D (-p) q (-u) v hD hq hv (by rw [Int.neg_mul, Int.neg_mul]; omega) (by rw [Int.neg_mul, Int.neg_mul]; omega)
  have e1 : -N * q - -p * D = -(N * q - p * D) := by grind
  have e2 : -N * v - -u * D = -(N * v - u * D) := by grind
  rw [e1, e2, absI_neg, absI_neg, Int.neg_mul, Int.neg_mul] at k
  rcases k with k | ⟨k, k'⟩
  · exact Or.inl k
  · exact Or.inr ⟨k, by omega⟩

/-- One that is at least as near as x, and not greater where it is as near, is so against all that x is nearer than. -/
theorem near_trans (N D p q s t u v : Int) (hq : 1 ≤ q) (ht : 1 ≤ t) (hv : 1 ≤ v)
    (h : absI (N * q - p * D) * t < absI (N * t - s * D) * q ∨ (absI (N * q - p * D) * t = absI (N * t - s * D) * q ∧ p * t ≤ s * q))
    (k : absI (N * t - s * D) * v < absI (N * v - u * D) * t ∨ (absI (N * t - s * D) * v = absI (N * v - u * D) * t ∧ u * t = s * v)) :
    absI (N * q - p * D) * v < absI (N * v - u * D) * q ∨ (absI (N * q - p * D) * v = absI (N * v - u * D) * q ∧ p * v ≤ u * q) := by
  generalize absI (N * q - p * D) = A at *
  generalize absI (N * t - s * D) = B at *
  generalize absI (N * v - u * D) = C at *
  have c1 : A * v * t = A * t * v := by grind
  have c2 : B * q * v = B * v * q := by grind
  have c3 : C * t * q = C * q * t := by grind
  rcases h with h | ⟨h, h'⟩
  · left
    have a := Int.mul_lt_mul_of_pos_right h (show 0 < v by omega)
    have b : B * v ≤ C * t := by omega
    have b' := Int.mul_le_mul_of_nonneg_right b (show 0 ≤ q by omega)
    exact Int.lt_of_mul_lt_mul_right (a := t) (by omega) (by omega)
  · rcases k with k | ⟨k, k'⟩
    · left
      have b' := Int.mul_lt_mul_of_pos_right k (show 0 < q by omega)
      have a : A * t * v = B * q * v := by rw [h]
      exact Int.lt_of_mul_lt_mul_right (a := t) (by omega) (by omega)
    · right
      have a : A * t * v = B * q * v := by rw [h]
      have b : B * v * q = C * t * q := by rw [k]
      refine ⟨Int.eq_of_mul_eq_mul_right (a := t) (by omega) (by omega), ?_⟩
      have d := Int.mul_le_mul_of_nonneg_right h' (show 0 ≤ v by omega)
      have d1 : p * t * v = p * v * t := by grind
      have d2 : s * q * v = u * q * t := by
        have : s * q * v = s * v * q := by grind
        rw [this, ← k']; grind
      exact Int.le_of_mul_le_mul_right (a := t) (by omega) (by omega)

/-- Of two neighbours on both sides the nearer one, or the lesser one if both are equally near, is the nearest. -/
theorem best_of (N D n p0 q0 p1 q1 p q : Int) (hD : 1 ≤ D) (hq0 : 1 ≤ q0) (hq1 : 1 ≤ q1) (i0 : q0 ≤ n) (i1 : q1 ≤ n) (det : p1 * q0 - p0 * q1 = 1) (nn : n < q0 + q1)
    (f0 : 0 ≤ N * q0 - p0 * D) (f1 : N * q1 - p1 * D ≤ 0)
    (hc : (p = p0 ∧ q = q0 ∧ absI (N * q0 - p0 * D) * q1 ≤ absI (N * q1 - p1 * D) * q0) ∨ (p = p1 ∧ q = q1 ∧ absI (N * q1 - p1 * D) * q0 < absI (N * q0 - p0 * D) * q1)) : bestP N D n p q := by
  have g0 : gcdI p0 q0 = 1 := by
    have a := gcdI_dvd_left p0 q0
    have b := gcdI_dvd_right p0 q0
    have c : gcdI p0 q0 ∣ 1 := by
      rw [← det]
      exact Int.dvd_sub (Int.dvd_trans b (Int.dvd_mul_left ..)) (Int.dvd_trans a (Int.dvd_mul_right ..))
    exact Int.eq_one_of_dvd_one (gcdI_nn _ _) c
  have g1 : gcdI p1 q1 = 1 := by
    have a := gcdI_dvd_left p1 q1
    have b := gcdI_dvd_right p1 q1
    have c : gcdI p1 q1 ∣ 1 := by
      rw [← det]
      exact Int.dvd_sub (Int.dvd_trans a (Int.dvd_mul_right ..)) (Int.dvd_trans b (Int.dvd_mul_left ..))
    exact Int.eq_one_of_dvd_one (gcdI_nn _ _) c
  have lt : p0 * q1 ≤ p1 * q0 := by omega
  rcases hc with ⟨rfl, rfl, hc⟩ | ⟨rfl, rfl, hc⟩
  · refine ⟨hq0, i0, g0, fun u v v1 vn => ?_⟩
    rcases farey n p q p1 q1 u v hq0 hq1 det v1 vn nn with h | h
    · rcases far_lo N D p q u v hD hq0 v1 h f0 with k | ⟨k, k'⟩
      · exact Or.inl k
      · exact Or.inr ⟨k, by omega⟩
    · refine near_trans N D p q p1 q1 u v hq0 hq1 v1 ?_ (far_hi N D p1 q1 u v hD hq1 v1 h f1)
      rcases Int.lt_or_le (absI (N * q - p * D) * q1) (absI (N * q1 - p1 * D) * q) with h | h
      · exact Or.inl h
      · exact Or.inr ⟨by omega, by omega⟩
  · refine ⟨hq1, i1, g1, fun u v v1 vn => ?_⟩
    rcases farey n p0 q0 p q u v hq0 hq1 det v1 vn nn with h | h
    · exact near_trans N D p q p0 q0 u v hq1 hq0 v1 (Or.inl hc) (far_lo N D p0 q0 u v hD hq0 v1 h f0)
    · rcases far_hi N D p q u v hD hq1 v1 h f1 with k | ⟨k, k'⟩
      · exact Or.inl k
      · exact Or.inr ⟨k, by omega⟩
end Go.Proofs.Ytdolfdmgdknboaa
