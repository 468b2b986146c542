/-
  The reference's Cos and Sin are the code's.
-/
import Derived.Test.YtmjbeplcabomdaaTe
import Derived.Test.YtmjbeplcabomdaaSv
import Derived.Test.YtmjbeplcabomdaaTk1
import Derived.Test.YtmjbeplcabomdaaTk2
import Derived.Test.YtmjbeplcabomdaaTk3
import Derived.Test.YtmjbeplcabomdaaTk4
import Derived.Test.YtmjbeplcabomdaaTk5
namespace Go.Proofs.Ytmjbeplcabomdaa
open Go.RowKit
set_option linter.unusedVariables false
set_option linter.unusedSimpArgs false

theorem same_all (n a : Nat) (h1 : 1 ≤ n) (h2 : n ≤ 720) (ha : a ≤ n) : quL a (4 * n) = acL a n ∧ quH a (4 * n) = acH a n := by
  have h : sameN a n = true := by
    by_cases k0 : n ≤ 228
    · exact srowsN_out same_a n (by omega) (by omega) a ha
    by_cases k1 : n ≤ 322
    · exact srowsN_out same_b n (by omega) (by omega) a ha
    by_cases k2 : n ≤ 395
    · exact srowsN_out same_c n (by omega) (by omega) a ha
    by_cases k3 : n ≤ 456
    · exact srowsN_out same_d n (by omega) (by omega) a ha
    by_cases k4 : n ≤ 510
    · exact srowsN_out same_e n (by omega) (by omega) a ha
    by_cases k5 : n ≤ 558
    · exact srowsN_out same_f n (by omega) (by omega) a ha
    by_cases k6 : n ≤ 603
    · exact srowsN_out same_g n (by omega) (by omega) a ha
    by_cases k7 : n ≤ 645
    · exact srowsN_out same_h n (by omega) (by omega) a ha
    by_cases k8 : n ≤ 684
    · exact srowsN_out same_i n (by omega) (by omega) a ha
    exact srowsN_out same_j n (by omega) (by omega) a ha
  rw [sameN, nmul, Bool.and_eq_true] at h
  exact ⟨Nat.eq_of_beq_eq_true h.1, Nat.eq_of_beq_eq_true h.2⟩
theorem an_scale (c k n : Nat) (hc : 0 < c) : anR (c * k) (c * n) = anR k n := by
  rw [anR, nmul, ndiv, anR, nmul, ndiv, show 628318530717958648 * (c * k) = c * (628318530717958648 * k) by rw [Nat.mul_left_comm]]
  exact Nat.mul_div_mul_left _ _ hc
theorem co_scale (c k n : Nat) (hc : 0 < c) : coR (c * k) (c * n) = coR k n := by
  have e1 : coR (c * k) (c * n) = rsN (tmN (anR (c * k) (c * n)) (anR (c * k) (c * n))) 12 100000000000000000 100000000000000000 1 true := by rw [coR]
  have e2 : coR k n = rsN (tmN (anR k n) (anR k n)) 12 100000000000000000 100000000000000000 1 true := by rw [coR]
  rw [e1, e2, an_scale c k n hc]
theorem si_scale (c k n : Nat) (hc : 0 < c) : siR (c * k) (c * n) = siR k n := by
  have e1 : siR (c * k) (c * n) = rsN (tmN (anR (c * k) (c * n)) (anR (c * k) (c * n))) 12 (anR (c * k) (c * n)) (anR (c * k) (c * n)) 2 true := by rw [siR]
  have e2 : siR k n = rsN (tmN (anR k n) (anR k n)) 12 (anR k n) (anR k n) 2 true := by rw [siR]
  rw [e1, e2, an_scale c k n hc]
theorem beq_iff' (a b : Nat) : Nat.beq a b = decide (a = b) := by
  by_cases h : a = b
  · rw [beqT h]; simp [h]
  · rw [beqF h]; simp [h]
theorem exC_scale (c k : Nat) (hc : 0 < c) : exC (c * k) = exC k := by
  rw [exC, exC, beq_iff', beq_iff', decide_eq_decide, Nat.mul_eq_zero]; omega
theorem exS_scale (c k n : Nat) (hc : 0 < c) : exS (c * k) (c * n) = exS k n := by
  rw [exS, exS, nmul, nmul, beq_iff', beq_iff', beq_iff', beq_iff']
  congr 1
  · rw [decide_eq_decide, Nat.mul_eq_zero]; omega
  · rw [decide_eq_decide, Nat.mul_left_comm]
    exact ⟨fun h => Nat.eq_of_mul_eq_mul_left hc h, fun h => by rw [h]⟩
theorem qu_scale (c k n : Nat) (hc : 0 < c) (hk : 4 * k ≤ n) : quL (c * k) (c * n) = quL k n ∧ quH (c * k) (c * n) = quH k n := by
  rw [qu_H, qu_H]
  by_cases h : 8 * k ≤ n
  · have h' : 8 * (c * k) ≤ c * n := by rw [Nat.mul_left_comm]; exact Nat.mul_le_mul_left c h
    obtain ⟨a1, a2⟩ := qu_lo h
    obtain ⟨b1, b2⟩ := qu_lo h'
    rw [a1, a2, b1, b2, exC_scale c k hc, co_scale c k n hc]
    exact ⟨rfl, rfl⟩
  · have h' : ¬ 8 * (c * k) ≤ c * n := by
      intro h2
      rw [Nat.mul_left_comm] at h2
      exact h (Nat.le_of_mul_le_mul_left h2 hc)
    obtain ⟨a1, a2⟩ := qu_hi h
    obtain ⟨b1, b2⟩ := qu_hi h'
    have e1 : c * n - 4 * (c * k) = c * (n - 4 * k) := by rw [Nat.mul_sub, Nat.mul_left_comm 4 c k]
    have e2 : 4 * (c * n) = c * (4 * n) := Nat.mul_left_comm 4 c n
    rw [a1, a2, b1, b2, e1, e2, exS_scale c _ _ hc, si_scale c _ _ hc]
    exact ⟨rfl, rfl⟩

/-- The part of half a turn that has the same cosine. -/
def fdN (k : Int) (n : Nat) : Nat := min (k % n).toNat (n - (k % n).toNat)
def crL (k : Int) (n : Nat) : Int := if n < 4 * fdN k n then -((quH (n - 2 * fdN k n) (2 * n) : Nat) : Int) else (quL (fdN k n) n : Nat)
def crH (k : Int) (n : Nat) : Int := if n < 4 * fdN k n then -((quL (n - 2 * fdN k n) (2 * n) : Nat) : Int) else (quH (fdN k n) n : Nat)
theorem fd_spec (k : Int) (n : Nat) (h : 1 ≤ n) : 2 * fdN k n ≤ n ∧ ∃ j : Int, k = n * j + fdN k n ∨ k = n * j - fdN k n := by
  have e := Int.mul_ediv_add_emod k n
  have b1 := Int.emod_nonneg k (show (n : Int) ≠ 0 by omega)
  have b2 := Int.emod_lt_of_pos k (show (0 : Int) < n by omega)
  unfold fdN
  generalize k / (n : Int) = q at *
  generalize k % (n : Int) = r at *
  refine ⟨by omega, ?_⟩
  by_cases c : 2 * r ≤ n
  · exact ⟨q, Or.inl (by rw [show ((min r.toNat (n - r.toNat) : Nat) : Int) = r by omega]; exact e.symm)⟩
  · exact ⟨q + 1, Or.inr (by rw [show ((min r.toNat (n - r.toNat) : Nat) : Int) = n - r by omega, ← e]; grind)⟩
theorem cr_A (k : Int) (n : Nat) (h1 : 1 ≤ n) (h2 : n ≤ 720) : crL k n = csL (4 * k.tmod n) n ∧ crH k n = csH (4 * k.tmod n) n := by
  obtain ⟨g, j, hj⟩ := fd_spec k n h1
  have hf : foN (4 * k.tmod n) n = 4 * fdN k n := by
    refine fo_uniq _ n _ h1 (by omega) ⟨j - k.tdiv n, ?_⟩
    rw [Int.tmod_def]
    rcases hj with hj | hj
    · exact Or.inl (by push_cast; grind)
    · exact Or.inr (by push_cast; grind)
  unfold crL crH csL csH
  rw [hf]
  generalize fdN k n = f at *
  by_cases c : n < 4 * f
  · obtain ⟨u1, u2⟩ := qu_scale 2 (n - 2 * f) (2 * n) (by omega) (by omega)
    obtain ⟨v1, v2⟩ := same_all n (2 * n - 4 * f) h1 h2 (by omega)
    rw [show 2 * (2 * n) = 4 * n by omega, show 2 * (n - 2 * f) = 2 * n - 4 * f by omega] at u1 u2
    simp only [c, if_true]
    rw [← u1, ← u2, v1, v2]
    exact ⟨rfl, rfl⟩
  · obtain ⟨u1, u2⟩ := qu_scale 4 f n (by omega) (by omega)
    obtain ⟨v1, v2⟩ := same_all n (4 * f) h1 h2 (by omega)
    simp only [c, if_false]
    rw [← u1, ← u2, v1, v2]
    exact ⟨rfl, rfl⟩
theorem cr_B (m : Int) (n : Nat) (h1 : 1 ≤ n) (h2 : n ≤ 720) : crL (n - 4 * m) (4 * n) = csL (4 * m - n) n ∧ crH (n - 4 * m) (4 * n) = csH (4 * m - n) n := by
  obtain ⟨g, j, hj⟩ := fd_spec (n - 4 * m) (4 * n) (by omega)
  have hf : foN (4 * m - n) n = fdN (n - 4 * m) (4 * n) := by
    refine fo_uniq _ n _ h1 (by omega) ⟨-j, ?_⟩
    rcases hj with hj | hj
    · exact Or.inr (by push_cast at hj; grind)
    · exact Or.inl (by push_cast at hj; grind)
  unfold crL crH csL csH
  rw [hf]
  generalize fdN (n - 4 * m) (4 * n) = f at *
  by_cases c : n < f
  · have c' : 4 * n < 4 * f := by omega
    obtain ⟨u1, u2⟩ := qu_scale 2 (2 * n - f) (4 * n) (by omega) (by omega)
    obtain ⟨v1, v2⟩ := same_all n (2 * n - f) h1 h2 (by omega)
    rw [show 2 * (2 * n - f) = 4 * n - 2 * f by omega] at u1 u2
    simp only [c, c', if_true]
    rw [u1, u2, v1, v2]
    exact ⟨rfl, rfl⟩
  · have c' : ¬ 4 * n < 4 * f := by omega
    obtain ⟨v1, v2⟩ := same_all n f h1 h2 (by omega)
    simp only [c, c', if_false]
    rw [v1, v2]
    exact ⟨rfl, rfl⟩
end Go.Proofs.Ytmjbeplcabomdaa
