/-
  All cosines of parts of a turn: enclosures of width at most 1, whose squares add up to 1.
-/
import Derived.Test.YtmjbeplcabomdaaSk1
import Derived.Test.YtmjbeplcabomdaaSk2
namespace Go.Proofs.Ytmjbeplcabomdaa
set_option linter.unusedVariables false
theorem chk_all (n a : Nat) (h1 : 1 ≤ n) (h2 : n ≤ 720) (ha : 2 * a ≤ n) : chkN a n = true := by
  by_cases k1 : n ≤ 300
  · exact rowsN_out rows_a n h1 (by omega) a ha
  · by_cases k2 : n ≤ 500
    · exact rowsN_out rows_b n (by omega) (by omega) a ha
    · by_cases k3 : n ≤ 630
      · exact rowsN_out rows_c n (by omega) (by omega) a ha
      · exact rowsN_out rows_d n (by omega) (by omega) a ha
theorem good_all (n a : Nat) (h1 : 1 ≤ n) (h2 : n ≤ 720) (ha : a ≤ n) : goodN a n = true := by
  by_cases k : 2 * a ≤ n
  · have h := chk_all n a h1 h2 k
    have h' : (goodN a n && (goodN (n - a) n && quadN (acL a n) (acH a n) (acL (n - a) n) (acH (n - a) n))) = true := h
    rw [Bool.and_eq_true] at h'
    exact h'.1
  · have h := chk_all n (n - a) h1 h2 (by omega)
    have h' : (goodN (n - a) n && (goodN (n - (n - a)) n && quadN (acL (n - a) n) (acH (n - a) n) (acL (n - (n - a)) n) (acH (n - (n - a)) n))) = true := h
    rw [show n - (n - a) = a by omega, Bool.and_eq_true, Bool.and_eq_true] at h'
    exact h'.2.1
/-- What is checked of the last step. -/
theorem chkY_out {y : Nat} (h : chkY y = true) : y ≤ 999999999999999990 ∧ 11 ≤ y ∧ (1000000000000000000 - y + 10) / 1000000000000 = (1000000000000000000 - y - 10) / 1000000000000 := by
  have h' : (Nat.ble y 999999999999999990 && (Nat.ble 11 y && Nat.beq ((1000000000000000000 - y + 10) / 1000000000000) ((1000000000000000000 - y - 10) / 1000000000000))) = true := h
  rw [Bool.and_eq_true, Bool.and_eq_true] at h'
  exact ⟨Nat.le_of_ble_eq_true h'.1, Nat.le_of_ble_eq_true h'.2.1, Nat.eq_of_beq_eq_true h'.2.2⟩
theorem last_all (n a : Nat) (h1 : 1 ≤ n) (h2 : n ≤ 720) (ha : 0 < a) (hb : a < n) (hc : 3 * a ≠ 2 * n) : lastY (sqN a n) ≤ 999999999999999990 ∧ 11 ≤ lastY (sqN a n) ∧ (1000000000000000000 - lastY (sqN a n) + 10) / 1000000000000 = (1000000000000000000 - lastY (sqN a n) - 10) / 1000000000000 := by
  have h := good_all n a h1 h2 (by omega)
  have h' : (Nat.beq a 0 || (Nat.beq (3 * a) (2 * n) || (Nat.beq a n || chkY (lastY (sqN a n))))) = true := h
  rw [Bool.or_eq_true, Bool.or_eq_true, Bool.or_eq_true] at h'
  rcases h' with h' | h' | h' | h'
  · have := Nat.eq_of_beq_eq_true h'; omega
  · have := Nat.eq_of_beq_eq_true h'; omega
  · have := Nat.eq_of_beq_eq_true h'; omega
  · exact chkY_out h'
theorem beqT {a b : Nat} (h : a = b) : Nat.beq a b = true := by subst h; exact Nat.beq_refl a
theorem beqF {a b : Nat} (h : a ≠ b) : Nat.beq a b = false := by
  cases e : Nat.beq a b
  · rfl
  · exact absurd (Nat.eq_of_beq_eq_true e) h
theorem ac_zero (n : Nat) : acL 0 n = 1000000 ∧ acH 0 n = 1000000 := ⟨rfl, rfl⟩
theorem cond3 {b1 b2 b3 : Bool} {x y z v : Nat} (h1 : b1 = false) (h2 : b2 = false) (h3 : b3 = false) : cond b1 x (cond b2 y (cond b3 z v)) = v := by subst h1 h2 h3; rfl
theorem cond2 {b1 b2 b3 : Bool} {x y z v : Nat} (h1 : b1 = false) (h2 : b2 = false) (h3 : b3 = true) : cond b1 x (cond b2 y (cond b3 z v)) = z := by subst h1 h2 h3; rfl
theorem cond1 {b1 b2 b3 : Bool} {x y z v : Nat} (h1 : b1 = false) (h2 : b2 = true) : cond b1 x (cond b2 y (cond b3 z v)) = y := by subst h1 h2; rfl
theorem ac_half {a n : Nat} (h0 : a ≠ 0) (h : 3 * a = 2 * n) : acL a n = 500000 ∧ acH a n = 500000 := by
  have e2 : Nat.beq (Nat.mul 3 a) (Nat.mul 2 n) = true := by rw [nmul, nmul]; exact beqT h
  constructor
  · rw [acL]; exact cond1 (beqF h0) e2
  · rw [acH]; exact cond1 (beqF h0) e2
theorem ac_full {n : Nat} (h0 : n ≠ 0) : acL n n = 0 ∧ acH n n = 0 := by
  have e2 : Nat.beq (Nat.mul 3 n) (Nat.mul 2 n) = false := by rw [nmul, nmul]; exact beqF (by omega)
  constructor
  · rw [acL]; exact cond2 (beqF h0) e2 (beqT rfl)
  · rw [acH]; exact cond2 (beqF h0) e2 (beqT rfl)
theorem ac_else {a n : Nat} (h0 : a ≠ 0) (h : 3 * a ≠ 2 * n) (h' : a ≠ n) : acL a n = (xsN a n - 10) / 1000000000000 ∧ acH a n = (xsN a n + 10) / 1000000000000 + 1 := by
  have e2 : Nat.beq (Nat.mul 3 a) (Nat.mul 2 n) = false := by rw [nmul, nmul]; exact beqF h
  constructor
  · rw [acL, cond3 (beqF h0) e2 (beqF h'), nsub, ndiv]
  · rw [acH, cond3 (beqF h0) e2 (beqF h'), nadd, nadd, ndiv]
theorem xs_eq (a n : Nat) : xsN a n = 1000000000000000000 - lastY (sqN a n) := by rw [xsN, nsub]
/-- The enclosure of a cosine of at most a quarter of a turn: width 0 where the cosine is 1, one half or 0, else 1. -/
theorem ac_wid (n a : Nat) (h1 : 1 ≤ n) (h2 : n ≤ 720) (ha : a ≤ n) : acH a n ≤ 1000000 ∧ ((a = 0 ∨ 3 * a = 2 * n ∨ a = n) ∧ acH a n = acL a n ∨ (a ≠ 0 ∧ 3 * a ≠ 2 * n ∧ a ≠ n) ∧ acH a n = acL a n + 1) := by
  by_cases e0 : a = 0
  · subst e0; exact ⟨by rw [(ac_zero n).2]; omega, Or.inl ⟨Or.inl rfl, by rw [(ac_zero n).1, (ac_zero n).2]⟩⟩
  · by_cases e1 : 3 * a = 2 * n
    · obtain ⟨u, v⟩ := ac_half e0 e1
      exact ⟨by omega, Or.inl ⟨by omega, by omega⟩⟩
    · by_cases e2 : a = n
      · subst e2
        obtain ⟨u, v⟩ := ac_full e0
        exact ⟨by omega, Or.inl ⟨by omega, by omega⟩⟩
      · obtain ⟨u, v⟩ := ac_else e0 e1 e2
        obtain ⟨p, q, r⟩ := last_all n a h1 h2 (by omega) (by omega) e1
        have hx := xs_eq a n
        rw [u, v, hx]
        exact ⟨by omega, Or.inr ⟨⟨e0, e1, e2⟩, by omega⟩⟩
end Go.Proofs.Ytmjbeplcabomdaa
