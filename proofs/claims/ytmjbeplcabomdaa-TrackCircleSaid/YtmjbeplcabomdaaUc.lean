/-
  The theorems of sums, at a fine scale: induction over the parts (no walk).
-/
import Derived.Test.YtmjbeplcabomdaaUb
import Derived.Test.YtmjbeplcabomdaaSv
namespace Go.Proofs.Ytmjbeplcabomdaa
set_option linter.unusedVariables false
set_option linter.unusedSimpArgs false
theorem norm_step {c s e f e' f' rho sig l : Int} (hl : 0 ≤ l) (hl2 : l ≤ 720) (hc : c * c + s * s ≤ 1000000000000001000 * 1000000000000001000)
    (he : e * e + f * f ≤ (600000000000000000000 * l) * (600000000000000000000 * l))
    (h1 : 1000000000000000000 * e' = c * e - s * f + rho) (h2 : 1000000000000000000 * f' = s * e + c * f + sig)
    (r1 : -300000000000000000000000000000000000000 ≤ rho) (r2 : rho ≤ 300000000000000000000000000000000000000) (s1 : -300000000000000000000000000000000000000 ≤ sig) (s2 : sig ≤ 300000000000000000000000000000000000000) :
    e' * e' + f' * f' ≤ (600000000000000000000 * (l + 1)) * (600000000000000000000 * (l + 1)) := by
  have q1 := sq_le r1 r2
  have q2 := sq_le s1 s2
  have q : rho * rho + sig * sig ≤ 500000000000000000000000000000000000000 * 500000000000000000000000000000000000000 := by omega
  have rot : (c * e - s * f) * (c * e - s * f) + (s * e + c * f) * (s * e + c * f) = (c * c + s * s) * (e * e + f * f) := by grind
  have nn : 0 ≤ e * e + f * f := by have := sq_nn e; have := sq_nn f; omega
  have m := Int.mul_le_mul hc he nn (by omega)
  have m2 : 1000000000000001000 * 1000000000000001000 * ((600000000000000000000 * l) * (600000000000000000000 * l)) = (1000000000000001000 * (600000000000000000000 * l)) * (1000000000000001000 * (600000000000000000000 * l)) := by grind
  rw [m2, ← rot] at m
  have na := norm_add (show (0 : Int) ≤ 1000000000000001000 * (600000000000000000000 * l) by omega) (show (0 : Int) ≤ 500000000000000000000000000000000000000 by omega) m q
  rw [← h1, ← h2] at na
  have mono := sq_le (x := 1000000000000001000 * (600000000000000000000 * l) + 500000000000000000000000000000000000000) (X := 1000000000000000000 * (600000000000000000000 * (l + 1))) (by omega) (by omega)
  have e1 : 1000000000000000000 * e' * (1000000000000000000 * e') + 1000000000000000000 * f' * (1000000000000000000 * f') = (e' * e' + f' * f') * 1000000000000000000000000000000000000 := by grind
  have e2 : 1000000000000000000 * (600000000000000000000 * (l + 1)) * (1000000000000000000 * (600000000000000000000 * (l + 1))) = ((600000000000000000000 * (l + 1)) * (600000000000000000000 * (l + 1))) * 1000000000000000000000000000000000000 := by grind
  rw [e1] at na
  rw [e2] at mono
  exact Int.le_of_mul_le_mul_right (Int.le_trans na mono) (by omega)
/-- A sequence of points, one step behind the other. -/
theorem sums_ind (p q : Nat → Int) (p0 : p 0 = 1000000000000000000) (q0 : q 0 = 0)
    (bp : ∀ j, -1000000000000000000 ≤ p j ∧ p j ≤ 1000000000000000000) (bq : ∀ j, -1000000000000000000 ≤ q j ∧ q j ≤ 1000000000000000000)
    (sp : ∀ j, near 100000000000000000000 (1000000000000000000 * p (j + 1)) (p 1 * p j - q 1 * q j)) (sq : ∀ j, near 100000000000000000000 (1000000000000000000 * q (j + 1)) (q 1 * p j + p 1 * q j))
    (hc : p 1 * p 1 + q 1 * q 1 ≤ 1000000000000001000 * 1000000000000001000) (k : Nat) :
    ∀ l : Nat, l ≤ 720 → (1000000000000000000 * p (k + l) - (p k * p l - q k * q l)) * (1000000000000000000 * p (k + l) - (p k * p l - q k * q l)) + (1000000000000000000 * q (k + l) - (p k * q l + q k * p l)) * (1000000000000000000 * q (k + l) - (p k * q l + q k * p l)) ≤ (600000000000000000000 * l) * (600000000000000000000 * l)
  | 0, _ => by
      rw [Nat.add_zero, p0, q0]
      have e1 : 1000000000000000000 * p k - (p k * 1000000000000000000 - q k * 0) = 0 := by omega
      have e2 : 1000000000000000000 * q k - (p k * 0 + q k * 1000000000000000000) = 0 := by omega
      rw [e1, e2]
      simp
  | l + 1, h => by
      have ih := sums_ind p q p0 q0 bp bq sp sq hc k l (by omega)
      have a1 := sp (k + l)
      have a2 := sq (k + l)
      have a3 := sp l
      have a4 := sq l
      have pk := bp k
      have qk := bq k
      rw [← Nat.add_assoc]
      unfold near at a1 a2 a3 a4
      clear sp sq bp bq p0 q0
      generalize p (k + l + 1) = P1 at *
      generalize q (k + l + 1) = Q1 at *
      generalize p (k + l) = P0 at *
      generalize q (k + l) = Q0 at *
      generalize p (l + 1) = p1 at *
      generalize q (l + 1) = q1 at *
      generalize p 1 = c at *
      generalize q 1 = s at *
      generalize p l = pl at *
      generalize q l = ql at *
      generalize p k = x at *
      generalize q k = y at *
      obtain ⟨al, hal⟩ : ∃ al, al = 1000000000000000000 * P1 - (c * P0 - s * Q0) := ⟨_, rfl⟩
      obtain ⟨be, hbe⟩ : ∃ be, be = 1000000000000000000 * Q1 - (s * P0 + c * Q0) := ⟨_, rfl⟩
      obtain ⟨ga, hga⟩ : ∃ ga, ga = 1000000000000000000 * p1 - (c * pl - s * ql) := ⟨_, rfl⟩
      obtain ⟨de, hde⟩ : ∃ de, de = 1000000000000000000 * q1 - (s * pl + c * ql) := ⟨_, rfl⟩
      have bal : -100000000000000000000 ≤ al ∧ al ≤ 100000000000000000000 := by omega
      have bbe : -100000000000000000000 ≤ be ∧ be ≤ 100000000000000000000 := by omega
      have bga : -100000000000000000000 ≤ ga ∧ ga ≤ 100000000000000000000 := by omega
      have bde : -100000000000000000000 ≤ de ∧ de ≤ 100000000000000000000 := by omega
      have mb : ∀ u v : Int, -1000000000000000000 ≤ u ∧ u ≤ 1000000000000000000 → -100000000000000000000 ≤ v ∧ v ≤ 100000000000000000000 → -100000000000000000000000000000000000000 ≤ u * v ∧ u * v ≤ 100000000000000000000000000000000000000 := by
        intro u v hu hv
        have h := Nat.mul_le_mul (show u.natAbs ≤ 1000000000000000000 by omega) (show v.natAbs ≤ 100000000000000000000 by omega)
        rw [← Int.natAbs_mul] at h
        omega
      have m1 := mb x ga pk bga
      have m2 := mb y de qk bde
      have m3 := mb x de pk bde
      have m4 := mb y ga qk bga
      have goal := norm_step (c := c) (s := s) (e := 1000000000000000000 * P0 - (x * pl - y * ql)) (f := 1000000000000000000 * Q0 - (x * ql + y * pl)) (e' := 1000000000000000000 * P1 - (x * p1 - y * q1)) (f' := 1000000000000000000 * Q1 - (x * q1 + y * p1))
        (rho := 1000000000000000000 * al - x * ga + y * de) (sig := 1000000000000000000 * be - x * de - y * ga) (l := (l : Int)) (by omega) (by omega) hc ih
        (by rw [hal, hga, hde]; grind) (by rw [hbe, hga, hde]; grind) (by omega) (by omega) (by omega) (by omega)
      have ec : ((l + 1 : Nat) : Int) = (l : Int) + 1 := by omega
      rw [ec]
      exact goal
end Go.Proofs.Ytmjbeplcabomdaa
