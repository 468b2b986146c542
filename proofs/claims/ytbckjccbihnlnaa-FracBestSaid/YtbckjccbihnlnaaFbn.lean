/-
  Plain numbers: the nearest fraction is a fraction, and what its differences come to.
-/
import Derived.Test.YtbckjccbihnlnaaFff
namespace Go.Proofs.Ytbckjccbihnlnaa
set_option linter.unusedVariables false

theorem best_ok (N D n P Q : Int) (ho : okF N D = true) (h1 : 1 ≤ n) (h2 : n ≤ 1000000000000000000) (hb : bestP N D n P Q) : okF P Q = true := by
  obtain ⟨o1, o2, o3, o4, o5⟩ := okF_out ho
  rcases Int.lt_or_le n D with hl | hl
  · obtain ⟨q1, q2, q3, q4⟩ := hb
    have hQ : Q * 1000000000000000000 ≤ 1000000000000000000 * D := by omega
    have key : ∀ u, absI (N * Q - P * D) ≤ absI (N * Q - u * D) := by
      intro u
      have := q4 u Q q1 q2
      have e : absI (N * Q - P * D) * Q ≤ absI (N * Q - u * D) * Q := by omega
      exact Int.le_of_mul_le_mul_right e (by omega)
    have n1 : N * Q ≤ 1000000000000000000 * Q := Int.mul_le_mul_of_nonneg_right o4 (by omega)
    have n2 : -1000000000000000000 * Q ≤ N * Q := Int.mul_le_mul_of_nonneg_right o3 (by omega)
    refine okF_in ⟨q1, by omega, ?_, ?_, q3⟩
    · rcases Int.lt_or_le P (-1000000000000000000) with r | r
      · have k := key (P + 1)
        have e1 : (P + 1) * D = P * D + D := by rw [Int.add_mul]; omega
        have m : (P + 1) * D ≤ -1000000000000000000 * D := Int.mul_le_mul_of_nonneg_right (by omega) (by omega)
        rw [e1] at k m
        unfold absI at k
        omega
      · exact r
    · rcases Int.lt_or_le 1000000000000000000 P with r | r
      · have k := key (P - 1)
        have e1 : (P - 1) * D = P * D - D := by rw [Int.sub_mul]; omega
        have m : 1000000000000000000 * D ≤ (P - 1) * D := Int.mul_le_mul_of_nonneg_right (by omega) (by omega)
        rw [e1] at k m
        unfold absI at k
        omega
      · exact r
  · obtain ⟨e1, e2⟩ := best_unique N D n P Q N D hb (best_own N D n o1 hl o5)
    rw [e1, e2]; exact ho
theorem absI_mul_pos (a b : Int) (h : 0 < b) : absI a * b = absI (a * b) := by
  unfold absI
  rw [Int.natAbs_mul, Int.natCast_mul, Int.natAbs_of_nonneg (show 0 ≤ b by omega)]
/-- A difference: its absolute value. -/
theorem sub_abs (n1 d1 n2 d2 : Int) (o1 : okF n1 d1 = true) (o2 : okF n2 d2 = true) (h : adE n1 d1 (-n2) d2 = 0) :
    okF (adN n1 d1 (-n2) d2) (adD n1 d1 (-n2) d2) = true ∧ absI (adN n1 d1 (-n2) d2) * (d1 * d2) = absI (n1 * d2 - n2 * d1) * adD n1 d1 (-n2) d2 := by
  have o3 : okF (-n2) d2 = true := by rw [okF_neg1]; exact o2
  obtain ⟨a1, a2, a3, a4, a5⟩ := okF_out o1
  obtain ⟨b1, b2, b3, b4, b5⟩ := okF_out o2
  rw [adE, if_pos ⟨o1, o3⟩] at h
  rw [show adN n1 d1 (-n2) d2 = mkN (n1 * d2 + -n2 * d1) (d1 * d2) by rw [adN, if_pos ⟨o1, o3⟩], show adD n1 d1 (-n2) d2 = mkD (n1 * d2 + -n2 * d1) (d1 * d2) by rw [adD, if_pos ⟨o1, o3⟩]]
  have hD : 0 < d1 * d2 := Int.mul_pos (by omega) (by omega)
  obtain ⟨k1, k2⟩ := mk_of _ _ hD h
  rw [show n1 * d2 + -n2 * d1 = n1 * d2 - n2 * d1 by rw [Int.neg_mul]; omega] at k1 k2 ⊢
  generalize mkN (n1 * d2 - n2 * d1) (d1 * d2) = x at *
  generalize mkD (n1 * d2 - n2 * d1) (d1 * d2) = y at *
  generalize n1 * d2 - n2 * d1 = z at *
  obtain ⟨y1, y2, y3, y4, y5⟩ := okF_out k1
  refine ⟨k1, ?_⟩
  rw [absI_mul_pos x _ hD, absI_mul_pos z y (by omega), k2]
theorem div_ok (n1 d1 n2 d2 : Int) (o1 : okF n1 d1 = true) (o2 : okF n2 d2 = true) (hz : ¬ n2 = 0) (h : dvE n1 d1 n2 d2 = 0) : okF (dvN n1 d1 n2 d2) (dvD n1 d1 n2 d2) = true := by
  obtain ⟨a1, a2, a3, a4, a5⟩ := okF_out o1
  rw [dvE, if_pos ⟨o1, o2⟩, if_neg hz] at h
  rw [show dvN n1 d1 n2 d2 = mkN (n1 * flN n2 d2) (d1 * absI n2) by rw [dvN, if_pos ⟨o1, o2⟩, if_neg hz], show dvD n1 d1 n2 d2 = mkD (n1 * flN n2 d2) (d1 * absI n2) by rw [dvD, if_pos ⟨o1, o2⟩, if_neg hz]]
  have p : 0 < absI n2 := by unfold absI; omega
  exact (mk_of _ _ (Int.mul_pos (by omega) p) h).1
theorem div_err (n1 d1 n2 d2 : Int) (o1 : okF n1 d1 = true) (o2 : okF n2 d2 = true) : (n2 = 0 → dvE n1 d1 n2 d2 = 18) ∧ (¬ n2 = 0 → dvE n1 d1 n2 d2 = 0 ∨ dvE n1 d1 n2 d2 = 16) := by
  constructor
  · intro hz; rw [dvE, if_pos ⟨o1, o2⟩, if_pos hz]
  · intro hz; rw [dvE, if_pos ⟨o1, o2⟩, if_neg hz]; unfold mkE; split <;> omega
theorem best_num (N D n P Q u v : Int) (ho : okF N D = true) (h1 : 1 ≤ n) (h2 : n ≤ 1000000000000000000) (hb : bestP N D n P Q) (hu : okF u v = true) (hv : v ≤ n)
    (E1 : adE N D (-P) Q = 0) (E2 : adE N D (-u) v = 0) :
    ¬ absI (adN N D (-u) v) * adD N D (-P) Q < absI (adN N D (-P) Q) * adD N D (-u) v ∧
    (absI (adN N D (-u) v) = absI (adN N D (-P) Q) → adD N D (-u) v = adD N D (-P) Q → ¬ u * Q < P * v) := by
  have hp := best_ok N D n P Q ho h1 h2 hb
  obtain ⟨k1, k2⟩ := sub_abs N D P Q ho hp E1
  obtain ⟨k3, k4⟩ := sub_abs N D u v ho hu E2
  obtain ⟨o1, o2, o3, o4, o5⟩ := okF_out ho
  obtain ⟨v1, v2, v3, v4, v5⟩ := okF_out hu
  obtain ⟨w1, w2, w3, w4, w5⟩ := okF_out k1
  obtain ⟨x1, x2, x3, x4, x5⟩ := okF_out k3
  obtain ⟨q1, q2, q3, q4⟩ := hb
  have hq := q4 u v v1 hv
  clear q4 k1 k3 E1 E2
  have p1 : 0 ≤ absI (N * Q - P * D) := by unfold absI; omega
  have p2 : 0 ≤ absI (N * v - u * D) := by unfold absI; omega
  generalize absI (N * Q - P * D) = A at *
  generalize absI (N * v - u * D) = B at *
  generalize absI (adN N D (-u) v) = g at *
  generalize absI (adN N D (-P) Q) = d at *
  generalize adD N D (-P) Q = dd at *
  generalize adD N D (-u) v = gd at *
  have hP : 0 < D * Q * v := Int.mul_pos (Int.mul_pos (by omega) (by omega)) (by omega)
  have m1 : (d * gd) * (D * Q * v) = (A * v) * (dd * gd) := by
    have : (d * gd) * (D * Q * v) = (d * (D * Q)) * (gd * v) := by grind
    rw [this, k2]; grind
  have m2 : (g * dd) * (D * Q * v) = (B * Q) * (dd * gd) := by
    have : (g * dd) * (D * Q * v) = (g * (D * v)) * (dd * Q) := by grind
    rw [this, k4]; grind
  have hg : 0 < dd * gd := Int.mul_pos (by omega) (by omega)
  constructor
  · intro c
    have c2 := Int.mul_lt_mul_of_pos_right c hP
    rw [m1, m2] at c2
    have := Int.mul_le_mul_of_nonneg_right (show A * v ≤ B * Q by omega) (show 0 ≤ dd * gd by omega)
    omega
  · intro e1 e2 c
    subst e1; subst e2
    rw [m1] at m2
    have : A * v = B * Q := Int.eq_of_mul_eq_mul_right (by omega) m2
    have hz : P * v ≤ u * Q := by omega
    omega
end Go.Proofs.Ytbckjccbihnlnaa
