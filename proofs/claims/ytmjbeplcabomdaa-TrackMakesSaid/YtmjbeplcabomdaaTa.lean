/-
  The reference's cosines: what its two series come to, and that all of them are the code's (no program is mentioned here).
-/
import Derived.Test.YtmjbeplcabomdaaSn
namespace Go.Proofs.Ytmjbeplcabomdaa
set_option linter.unusedVariables false
def tmN (a b : Nat) : Nat := Nat.div (Nat.mul a b) 100000000000000000
/-- Rounds of a series: the square, the rounds that are left, the sum, the term, k, and whether the next term is subtracted. -/
def rsN (s : Nat) : Nat → Nat → Nat → Nat → Bool → Nat
  | 0, sum, _, _, _ => sum
  | r + 1, sum, t, k, b => rsN s r (cond b (Nat.sub sum (Nat.div (tmN t s) (Nat.mul k (Nat.add k 1)))) (Nat.add sum (Nat.div (tmN t s) (Nat.mul k (Nat.add k 1))))) (Nat.div (tmN t s) (Nat.mul k (Nat.add k 1))) (Nat.add k 2) (not b)
def anR (k n : Nat) : Nat := Nat.div (Nat.mul 628318530717958648 k) n
def coR (k n : Nat) : Nat := rsN (tmN (anR k n) (anR k n)) 12 100000000000000000 100000000000000000 1 true
def siR (k n : Nat) : Nat := rsN (tmN (anR k n) (anR k n)) 12 (anR k n) (anR k n) 2 true
/-- The enclosure of a cosine of k parts of n, at most a quarter, by the reference. -/
def exC (k : Nat) : Bool := Nat.beq k 0
def exS (k n : Nat) : Bool := or (Nat.beq k 0) (Nat.beq (Nat.mul 12 k) n)
def rnd (c : Nat) : Nat := Nat.div (Nat.add c 50000000000) 100000000000
def flo (c : Nat) : Nat := Nat.div c 100000000000
def quL (k n : Nat) : Nat := cond (Nat.ble (Nat.mul 8 k) n) (cond (exC k) (rnd (coR k n)) (flo (coR k n))) (cond (exS (Nat.sub n (Nat.mul 4 k)) (Nat.mul 4 n)) (rnd (siR (Nat.sub n (Nat.mul 4 k)) (Nat.mul 4 n))) (flo (siR (Nat.sub n (Nat.mul 4 k)) (Nat.mul 4 n))))
def quX (k n : Nat) : Bool := cond (Nat.ble (Nat.mul 8 k) n) (exC k) (exS (Nat.sub n (Nat.mul 4 k)) (Nat.mul 4 n))
def quH (k n : Nat) : Nat := cond (quX k n) (quL k n) (Nat.add (quL k n) 1)
def sameN (a n : Nat) : Bool := and (Nat.beq (quL a (Nat.mul 4 n)) (acL a n)) (Nat.beq (quH a (Nat.mul 4 n)) (acH a n))
def srowN (n : Nat) : Nat → Bool
  | 0 => sameN 0 n
  | a + 1 => and (sameN (a + 1) n) (srowN n a)
def srowsN (n : Nat) : Nat → Bool
  | 0 => srowN n n
  | k + 1 => and (srowN (Nat.add n (k + 1)) (Nat.add n (k + 1))) (srowsN n k)
theorem srowN_out {n : Nat} : ∀ {a : Nat}, srowN n a = true → ∀ b, b ≤ a → sameN b n = true
  | 0, h, b, hb => by obtain rfl : b = 0 := by omega
                      exact h
  | a + 1, h, b, hb => by
      have h2 : (sameN (a + 1) n && srowN n a) = true := h
      rw [Bool.and_eq_true] at h2
      by_cases e : b = a + 1
      · subst e; exact h2.1
      · exact srowN_out h2.2 b (by omega)
theorem srowsN_out {n : Nat} : ∀ {k : Nat}, srowsN n k = true → ∀ m, n ≤ m → m ≤ n + k → ∀ a, a ≤ m → sameN a m = true
  | 0, h, m, h1, h2, a, ha => by
      obtain rfl : m = n := by omega
      exact srowN_out h a ha
  | k + 1, h, m, h1, h2, a, ha => by
      have h3 : (srowN (n + (k + 1)) (n + (k + 1)) && srowsN n k) = true := h
      rw [Bool.and_eq_true] at h3
      by_cases e : m = n + (k + 1)
      · subst e; exact srowN_out h3.1 a ha
      · exact srowsN_out h3.2 m h1 (by omega) a ha
end Go.Proofs.Ytmjbeplcabomdaa
