/-
  Cosines at a fine scale: what is checked of all of them for the theorems of sums (no program is mentioned here).
-/
import Derived.Test.YtmjbeplcabomdaaSn
namespace Go.Proofs.Ytmjbeplcabomdaa
set_option linter.unusedVariables false
/-- The cosine of a / n of a quarter of a turn, a from 0 to n, in parts of 10^18. -/
def xvN (a n : Nat) : Nat := cond (Nat.beq a 0) 1000000000000000000 (cond (Nat.beq (Nat.mul 3 a) (Nat.mul 2 n)) 500000000000000000 (cond (Nat.beq a n) 0 (xsN a n)))
/-- The same with a sign, for a from 0 to 2 n. -/
def xfI (f n : Nat) : Int := cond (Nat.ble f n) (Int.ofNat (xvN f n)) (Int.negOfNat (xvN (Nat.sub (Nat.mul 2 n) f) n))
/-- For r from 0 to 4 n. -/
def xrI (r n : Nat) : Int := xfI (cond (Nat.ble (Nat.mul 2 n) r) (Nat.sub (Nat.mul 4 n) r) r) n
def coI (j n : Nat) : Int := xrI (Nat.mod (Nat.mul 4 j) (Nat.mul 4 n)) n
def siI (j n : Nat) : Int := xrI (Nat.mod (Nat.add (Nat.mul 4 j) (Nat.mul 3 n)) (Nat.mul 4 n)) n
def nearB (x y : Int) : Bool := Nat.ble (Int.natAbs (Int.sub x y)) 100000000000000000000
def stepBq (c s p q p' q' : Int) : Bool := and (nearB (Int.mul 1000000000000000000 p') (Int.sub (Int.mul c p) (Int.mul s q))) (and (nearB (Int.mul 1000000000000000000 q') (Int.add (Int.mul s p) (Int.mul c q))) (nearB (Int.add (Int.mul p p) (Int.mul q q)) 1000000000000000000000000000000000000))
def chainN (n : Nat) : Nat → Bool
  | 0 => stepBq (coI 1 n) (siI 1 n) (coI 0 n) (siI 0 n) (coI 1 n) (siI 1 n)
  | j + 1 => and (stepBq (coI 1 n) (siI 1 n) (coI (j + 1) n) (siI (j + 1) n) (coI (j + 2) n) (siI (j + 2) n)) (chainN n j)
theorem chainN_out {n : Nat} : ∀ {a : Nat}, chainN n a = true → ∀ b, b ≤ a → stepBq (coI 1 n) (siI 1 n) (coI b n) (siI b n) (coI (b + 1) n) (siI (b + 1) n) = true
  | 0, h, b, hb => by obtain rfl : b = 0 := by omega
                      exact h
  | a + 1, h, b, hb => by
      have h2 : (stepBq (coI 1 n) (siI 1 n) (coI (a + 1) n) (siI (a + 1) n) (coI (a + 2) n) (siI (a + 2) n) && chainN n a) = true := h
      rw [Bool.and_eq_true] at h2
      by_cases e : b = a + 1
      · subst e; exact h2.1
      · exact chainN_out h2.2 b (by omega)
end Go.Proofs.Ytmjbeplcabomdaa
