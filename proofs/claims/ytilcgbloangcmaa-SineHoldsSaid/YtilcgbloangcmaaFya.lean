/-
  The sum of the reference: plain numbers.
-/
import Derived.Test.YtilcgbloangcmaaFn
namespace Go.Proofs.Ytilcgbloangcmaa
set_option linter.unusedVariables false

theorem gcdI_self (d : Int) (h : 1 ≤ d) : gcdI d d = d := by
  unfold gcdI; rw [Nat.gcd_self]; omega
theorem gcdI_zero (d : Int) (h : 1 ≤ d) : gcdI (0 % d) d = d := by
  unfold gcdI; rw [Int.zero_emod]; simp; omega
theorem zero_sum (n1 d1 n2 d2 g le ri S m h : Int) (s : Bool) (o1 : 1 ≤ d1) (p1 : 1 ≤ d2) (c1 : gcdI n1 d1 = 1) (c2 : gcdI n2 d2 = 1) (eg : g = gcdI d1 d2) (el : le = d1 / g) (er : ri = d2 / g)
    (hS : S = n1 * ri + n2 * le) (hs : sv s m = S) (hz : m = 0) (eh : h = gcdI (m % g) g) : le * (d2 / h) = 1 := by
  have g0 : 0 < g := by rw [eg]; exact gcdI_pos _ _ (by omega)
  have gd2 : g ∣ d2 := by rw [eg]; exact gcdI_dvd_right ..
  have gd1 : g ∣ d1 := by rw [eg]; exact gcdI_dvd_left ..
  have e1 : d1 = le * g := by rw [el]; exact dvd_div _ _ g0 gd1
  have e2 : d2 = ri * g := by rw [er]; exact dvd_div _ _ g0 gd2
  have z : S = 0 := by rw [← hs, hz]; unfold sv; cases s <;> rfl
  have e3 : n1 * d2 + n2 * d1 = S * g := by rw [hS, e1, e2]; grind
  rw [z] at e3
  have e4 : n1 * d2 = -n2 * d1 := by rw [Int.neg_mul]; omega
  have e5 := (frac_eq n1 d1 (-n2) d2 o1 p1 c1 (by rw [gcdI_neg]; exact c2)).1 e4
  have e6 := e5.2
  subst e6
  have e7 : g = d1 := by rw [eg]; exact gcdI_self _ o1
  subst e7
  have e8 : h = g := by rw [eh, hz]; exact gcdI_zero _ o1
  rw [e8, el, Int.ediv_self (by omega)]
  rfl
/-- The signs of the three ways to add. -/
theorem sv_same (n1 n2 ri le : Int) (h : (decide (n1 < 0) == decide (n2 < 0)) = true) : sv (decide (n1 < 0)) (absI n1 * ri + absI n2 * le) = n1 * ri + n2 * le := by
  unfold sv absI
  by_cases h1 : n1 < 0 <;> by_cases h2 : n2 < 0 <;> simp [h1, h2] at h ⊢
  · rw [show ((n1.natAbs : Nat) : Int) = -n1 by omega, show ((n2.natAbs : Nat) : Int) = -n2 by omega, Int.neg_mul, Int.neg_mul]; omega
  · rw [show ((n1.natAbs : Nat) : Int) = n1 by omega, show ((n2.natAbs : Nat) : Int) = n2 by omega]
theorem sv_more (n1 n2 ri le : Int) (h : (decide (n1 < 0) == decide (n2 < 0)) = false) : sv (decide (n1 < 0)) (absI n1 * ri - absI n2 * le) = n1 * ri + n2 * le := by
  unfold sv absI
  by_cases h1 : n1 < 0 <;> by_cases h2 : n2 < 0 <;> simp [h1, h2] at h ⊢
  · rw [show ((n1.natAbs : Nat) : Int) = -n1 by omega, show ((n2.natAbs : Nat) : Int) = n2 by omega, Int.neg_mul]; omega
  · rw [show ((n1.natAbs : Nat) : Int) = n1 by omega, show ((n2.natAbs : Nat) : Int) = -n2 by omega, Int.neg_mul]; omega
end Go.Proofs.Ytilcgbloangcmaa
