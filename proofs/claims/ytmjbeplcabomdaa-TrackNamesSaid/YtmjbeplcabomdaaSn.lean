/-
  Cosines of parts of a quarter of a turn by a series of whole numbers: what the series comes to, and what is checked of all of them (no program is mentioned here).
-/
import Derived.Test.YtmjbeplcabomdaaSm
namespace Go.Proofs.Ytmjbeplcabomdaa
set_option linter.unusedVariables false
theorem nsub (a b : Nat) : Nat.sub a b = a - b := Nat.le_antisymm (Nat.le_refl _) (Nat.le_refl _)
theorem ndiv (a b : Nat) : Nat.div a b = a / b := Nat.le_antisymm (Nat.le_refl _) (Nat.le_refl _)
theorem nmul (a b : Nat) : Nat.mul a b = a * b := Nat.le_antisymm (Nat.le_refl _) (Nat.le_refl _)
theorem nadd (a b : Nat) : Nat.add a b = a + b := Nat.le_antisymm (Nat.le_refl _) (Nat.le_refl _)
def stp (s x d : Nat) : Nat := Nat.sub 1000000000000000000 (Nat.div (Nat.div (Nat.mul s x) 1000000000000000000) d)
def angN (a n : Nat) : Nat := Nat.div (Nat.mul 1570796326794896619 a) n
def sqN (a n : Nat) : Nat := Nat.div (Nat.mul (angN a n) (angN a n)) 1000000000000000000
/-- The rounds from k = 2 r + 2 downwards, but for the last one. -/
def serN (s : Nat) : Nat → Nat → Nat
  | 0, x => x
  | r + 1, x => serN s r (stp s x ((2 * r + 4) * (2 * r + 3)))
def ser11 (s : Nat) : Nat := stp s (stp s (stp s (stp s (stp s (stp s (stp s (stp s (stp s (stp s (stp s 1000000000000000000 552) 462) 380) 306) 240) 182) 132) 90) 56) 30) 12
theorem ser11_eq (s : Nat) : serN s 11 1000000000000000000 = ser11 s := rfl
def lastY (s : Nat) : Nat := Nat.div (Nat.div (Nat.mul s (ser11 s)) 1000000000000000000) 2
def xsN (a n : Nat) : Nat := Nat.sub 1000000000000000000 (lastY (sqN a n))
def acL (a n : Nat) : Nat := cond (Nat.beq a 0) 1000000 (cond (Nat.beq (Nat.mul 3 a) (Nat.mul 2 n)) 500000 (cond (Nat.beq a n) 0 (Nat.div (Nat.sub (xsN a n) 10) 1000000000000)))
def acH (a n : Nat) : Nat := cond (Nat.beq a 0) 1000000 (cond (Nat.beq (Nat.mul 3 a) (Nat.mul 2 n)) 500000 (cond (Nat.beq a n) 0 (Nat.add (Nat.div (Nat.add (xsN a n) 10) 1000000000000) 1)))
def chkY (y : Nat) : Bool := and (Nat.ble y 999999999999999990) (and (Nat.ble 11 y) (Nat.beq (Nat.div (Nat.add (Nat.sub 1000000000000000000 y) 10) 1000000000000) (Nat.div (Nat.sub (Nat.sub 1000000000000000000 y) 10) 1000000000000)))
def goodN (a n : Nat) : Bool := or (Nat.beq a 0) (or (Nat.beq (Nat.mul 3 a) (Nat.mul 2 n)) (or (Nat.beq a n) (chkY (lastY (sqN a n)))))
def quadN (l h l' h' : Nat) : Bool := and (Nat.ble (Nat.add (Nat.div (Nat.mul l l) 1000000) (Nat.div (Nat.mul l' l') 1000000)) 1000000) (Nat.ble 1000000 (Nat.add (Nat.div (Nat.add (Nat.mul h h) 999999) 1000000) (Nat.div (Nat.add (Nat.mul h' h') 999999) 1000000)))
def chkN (a n : Nat) : Bool := and (goodN a n) (and (goodN (Nat.sub n a) n) (quadN (acL a n) (acH a n) (acL (Nat.sub n a) n) (acH (Nat.sub n a) n)))
def rowN (n : Nat) : Nat → Bool
  | 0 => chkN 0 n
  | a + 1 => and (chkN (a + 1) n) (rowN n a)
/-- All rows from n to n + k. -/
def rowsN (n : Nat) : Nat → Bool
  | 0 => rowN n (Nat.div n 2)
  | k + 1 => and (rowN (Nat.add n (k + 1)) (Nat.div (Nat.add n (k + 1)) 2)) (rowsN n k)
theorem rowN_out {n : Nat} : ∀ {a : Nat}, rowN n a = true → ∀ b, b ≤ a → chkN b n = true
  | 0, h, b, hb => by obtain rfl : b = 0 := by omega
                      exact h
  | a + 1, h, b, hb => by
      have h2 : (chkN (a + 1) n && rowN n a) = true := h
      rw [Bool.and_eq_true] at h2
      by_cases e : b = a + 1
      · subst e; exact h2.1
      · exact rowN_out h2.2 b (by omega)
theorem rowsN_out {n : Nat} : ∀ {k : Nat}, rowsN n k = true → ∀ m, n ≤ m → m ≤ n + k → ∀ a, 2 * a ≤ m → chkN a m = true
  | 0, h, m, h1, h2, a, ha => by
      obtain rfl : m = n := by omega
      exact rowN_out h a (by show a ≤ m / 2; omega)
  | k + 1, h, m, h1, h2, a, ha => by
      have h3 : (rowN (n + (k + 1)) ((n + (k + 1)) / 2) && rowsN n k) = true := h
      rw [Bool.and_eq_true] at h3
      by_cases e : m = n + (k + 1)
      · subst e; exact rowN_out h3.1 a (by omega)
      · exact rowsN_out h3.2 m h1 (by omega) a ha
end Go.Proofs.Ytmjbeplcabomdaa
