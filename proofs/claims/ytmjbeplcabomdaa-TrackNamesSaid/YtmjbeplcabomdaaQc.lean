/-
  Plain numbers: how two digits are divided by a two-digit number whose first digit is great (the estimate of the first digit of the quotient, and what becomes of it).  Plain numbers: what the shifts of math/bits.Div64 come to.
-/
import Derived.WalkKit
import Derived.Lib.BitFns
namespace Go.Proofs.Ytmjbeplcabomdaa.Dv
set_option linter.unusedVariables false

theorem prod (q yn1 yn0 Y : Int) (hY : Y = yn1 * 4294967296 + yn0) : q * Y = 4294967296 * (q * yn1) + q * yn0 := by
  rw [hY, Int.mul_add, ← Int.mul_assoc]; omega

theorem init (yn1 yn0 Y un u1 : Int) (hY : Y = yn1 * 4294967296 + yn0) (y1 : 2147483648 ≤ yn1) (y2 : 0 ≤ yn0) (y3 : yn0 < 4294967296)
    (h0 : 0 ≤ un) (h1 : un < Y) (u0 : 0 ≤ u1) (u2 : u1 < 4294967296) :
    0 ≤ un / yn1 ∧ un / yn1 ≤ 4294967297 ∧ 0 ≤ un % yn1 ∧ un % yn1 < yn1 ∧ (un / yn1) * yn1 + un % yn1 = un ∧ un * 4294967296 + u1 < (un / yn1 + 1) * Y := by
  have e0 : 0 ≤ un / yn1 := Int.ediv_nonneg h0 (by omega)
  have e1 := Int.emod_nonneg un (show yn1 ≠ 0 by omega)
  have e2 := Int.emod_lt_of_pos un (show 0 < yn1 by omega)
  have e3 : (un / yn1) * yn1 + un % yn1 = un := by rw [Int.mul_comm]; exact Int.mul_ediv_add_emod un yn1
  have e5 : un / yn1 < 4294967298 := by
    refine Int.ediv_lt_of_lt_mul (by omega) ?_
    omega
  refine ⟨e0, by omega, e1, e2, e3, ?_⟩
  have e6 := prod (un / yn1 + 1) yn1 yn0 Y hY
  have e7 : 0 ≤ (un / yn1 + 1) * yn0 := Int.mul_nonneg (by omega) y2
  have e8 : (un / yn1 + 1) * yn1 = (un / yn1) * yn1 + yn1 := by rw [Int.add_mul]; omega
  omega

theorem stepA (q Y un u1 : Int) (h1 : un < Y) (hY : 0 < Y) (u2 : u1 < 4294967296) (hq : 4294967296 ≤ q) : un * 4294967296 + u1 < q * Y := by
  have : 4294967296 * Y ≤ q * Y := Int.mul_le_mul_of_nonneg_right hq (by omega)
  omega
theorem stepB (q r yn1 yn0 Y un u1 : Int) (hY : Y = yn1 * 4294967296 + yn0) (hr : q * yn1 + r = un) (ht : 4294967296 * r + u1 < q * yn0) : un * 4294967296 + u1 < q * Y := by
  have := prod q yn1 yn0 Y hY
  omega
theorem next (q r yn1 un : Int) (hr : q * yn1 + r = un) : (q - 1) * yn1 + (r + yn1) = un := by
  rw [Int.sub_mul]; omega
theorem brk (q r yn1 yn0 Y un u1 : Int) (hY : Y = yn1 * 4294967296 + yn0) (y2 : 0 ≤ yn0) (y3 : yn0 < 4294967296) (u0 : 0 ≤ u1)
    (hr : q * yn1 + r = un) (q0 : 0 ≤ q) (hq : q ≤ 4294967296) (hb : 4294967296 ≤ r) : q * Y ≤ un * 4294967296 + u1 := by
  have h := prod q yn1 yn0 Y hY
  have : q * yn0 ≤ 4294967296 * 4294967295 := Int.mul_le_mul hq (by omega) y2 (by omega)
  omega
theorem stop (q r yn1 yn0 Y un u1 : Int) (hY : Y = yn1 * 4294967296 + yn0) (hr : q * yn1 + r = un) (ht : ¬ 4294967296 * r + u1 < q * yn0) : q * Y ≤ un * 4294967296 + u1 := by
  have := prod q yn1 yn0 Y hY
  omega
theorem lt_b (q Y un u1 : Int) (h1 : un < Y) (hY : 0 < Y) (u2 : u1 < 4294967296) (h : q * Y ≤ un * 4294967296 + u1) : q ≤ 4294967295 := by
  by_cases hq : 4294967296 ≤ q
  · have := stepA q Y un u1 h1 hY u2 hq
    omega
  · omega
theorem wrap3 (un u1 q Y M : Int) (hM : un * 4294967296 + u1 - q * Y = M) (m0 : 0 ≤ M) (m1 : M < 18446744073709551616) :
    IntKind.u64.wrap (IntKind.u64.wrap (IntKind.u64.wrap (un * 4294967296) + u1) - IntKind.u64.wrap (q * Y)) = M := by
  rw [IntKind.wrap_u64, IntKind.wrap_u64, IntKind.wrap_u64, IntKind.wrap_u64]
  omega
theorem mulb (q yn0 : Int) (i1 : 0 ≤ q) (hq : q ≤ 4294967295) (y2 : 0 ≤ yn0) (y3 : yn0 < 4294967296) : 0 ≤ q * yn0 ∧ q * yn0 ≤ 18446744065119617025 :=
  ⟨Int.mul_nonneg i1 y2, Int.mul_le_mul (c := 4294967295) (d := 4294967295) hq (by omega) y2 (by omega)⟩
theorem digit (q Y U : Int) (hY : 0 < Y) (h1 : q * Y ≤ U) (h2 : U < (q + 1) * Y) : q = U / Y ∧ U - q * Y = U % Y ∧ 0 ≤ U - q * Y ∧ U - q * Y < Y := by
  have e : (q + 1) * Y = q * Y + Y := by rw [Int.add_mul]; omega
  have e1 : U / Y = q := by
    have a : q ≤ U / Y := Int.le_ediv_of_mul_le hY h1
    have b : U / Y < q + 1 := Int.ediv_lt_of_lt_mul hY h2
    omega
  have e2 := Int.mul_ediv_add_emod U Y
  rw [e1, Int.mul_comm] at e2
  omega
/-- Two digits of the quotient, one after the other. -/
theorem two (U Y u0 : Int) (hY : 0 < Y) (h0 : 0 ≤ u0) (h1 : u0 < 4294967296) :
    (U * 4294967296 + u0) / Y = U / Y * 4294967296 + (U % Y * 4294967296 + u0) / Y ∧ (U * 4294967296 + u0) % Y = (U % Y * 4294967296 + u0) % Y := by
  have e : U * 4294967296 + u0 = (U % Y * 4294967296 + u0) + Y * (U / Y * 4294967296) := by
    have h := Int.mul_ediv_add_emod U Y
    rw [← Int.mul_assoc]
    omega
  constructor
  · rw [e, Int.add_mul_ediv_left _ _ (by omega)]; omega
  · rw [e, Int.add_mul_emod_self_left]
/-- What is scaled and divided is what was divided. -/
theorem scaled (N y S : Int) (hS : 0 < S) (hy : 0 < y) : N * S / (y * S) = N / y ∧ N * S % (y * S) / S = N % y := by
  constructor
  · exact Int.mul_ediv_mul_of_pos_left N y hS
  · rw [Int.mul_comm N S, Int.mul_comm y S, Int.mul_emod_mul_of_pos _ _ hS, Int.mul_ediv_cancel_left _ (by omega)]
end Go.Proofs.Ytmjbeplcabomdaa.Dv
namespace Go.Proofs.Ytmjbeplcabomdaa.Dv
set_option linter.unusedVariables false
open Go.Lib

theorem aux_bd : ∀ (f x : Nat), 0 < x → x < 2 ^ f → 1 ≤ Go.Lib.bitLenAux f x ∧ Go.Lib.bitLenAux f x ≤ f ∧ 2 ^ (Go.Lib.bitLenAux f x - 1) ≤ x ∧ x < 2 ^ Go.Lib.bitLenAux f x
  | 0, x, h0, h1 => by simp at h1; omega
  | f + 1, x, h0, h1 => by
    rw [Go.Lib.bitLenAux, if_neg (by omega)]
    by_cases h2 : x / 2 = 0
    · have e : x = 1 := by omega
      subst e
      have : Go.Lib.bitLenAux f (1 / 2) = 0 := by cases f <;> simp [Go.Lib.bitLenAux]
      rw [this]
      simp
    · have ih := aux_bd f (x / 2) (by omega) (by rw [Nat.pow_succ] at h1; omega)
      obtain ⟨a, b, c, d⟩ := ih
      refine ⟨by omega, by omega, ?_, ?_⟩
      · rw [show 1 + Go.Lib.bitLenAux f (x / 2) - 1 = (Go.Lib.bitLenAux f (x / 2) - 1) + 1 by omega, Nat.pow_succ]; omega
      · rw [Nat.add_comm, Nat.pow_succ]; omega

theorem pow_two (s : Int) (h0 : 0 ≤ s) (h1 : s ≤ 63) : (2 : Int) ^ s.toNat * 2 ^ (64 - s).toNat = 18446744073709551616 ∧ 0 < (2 : Int) ^ s.toNat ∧ 0 < (2 : Int) ^ (64 - s).toNat := by
  refine ⟨?_, Int.pow_pos (by omega), Int.pow_pos (by omega)⟩
  rw [← Int.pow_add, show s.toNat + (64 - s).toNat = 64 by omega]
  rfl

/-- The shift that makes a divisor great. -/
theorem norm (y s : Int) (h0 : 0 < y) (h1 : y < 18446744073709551616) (hs : s = 64 - (Go.Lib.bitLen y.toNat : Int)) : 0 ≤ s ∧ s ≤ 63 ∧ 9223372036854775808 ≤ y * 2 ^ s.toNat ∧ y * 2 ^ s.toNat < 18446744073709551616 := by
  obtain ⟨a, b, c, d⟩ := aux_bd 64 y.toNat (by omega) (by omega)
  have e0 : Go.Lib.bitLen y.toNat = Go.Lib.bitLenAux 64 y.toNat := by rfl
  rw [← e0] at a b c d
  generalize Go.Lib.bitLen y.toNat = L at *
  have hy : y = (y.toNat : Int) := by omega
  have e : s.toNat = 64 - L := by omega
  refine ⟨by omega, by omega, ?_, ?_⟩
  · rw [e, hy]
    have h := Nat.mul_le_mul_right (2 ^ (64 - L)) c
    rw [← Nat.pow_add, show L - 1 + (64 - L) = 63 by omega] at h
    have h2 : (((2 ^ 63 : Nat)) : Int) ≤ ((y.toNat * 2 ^ (64 - L) : Nat) : Int) := Int.ofNat_le.2 h
    rw [Int.natCast_mul, Int.natCast_pow] at h2
    exact h2
  · rw [e, hy]
    have h := Nat.mul_lt_mul_of_pos_right d (show 0 < 2 ^ (64 - L) from Nat.pow_pos (by omega))
    rw [← Nat.pow_add, show L + (64 - L) = 64 by omega] at h
    have h2 : ((y.toNat * 2 ^ (64 - L) : Nat) : Int) < (((2 ^ 64 : Nat)) : Int) := Int.ofNat_lt.2 h
    rw [Int.natCast_mul, Int.natCast_pow] at h2
    exact h2

theorem and_lo (x : Int) (h0 : 0 ≤ x) (h1 : x < 18446744073709551616) : bits .and .u64 x 4294967295 = x % 4294967296 := by
  have h := bits_and_u64_nat x.toNat 4294967295 (by omega) (by omega)
  rw [Int.toNat_of_nonneg h0] at h
  have e : x.toNat &&& 4294967295 = x.toNat % 4294967296 := Nat.and_two_pow_sub_one_eq_mod x.toNat 32
  rw [e] at h
  refine Eq.trans h ?_
  omega
theorem or_sum (a s b : Nat) (hb : b < 2 ^ s) (h : a * 2 ^ s + b < 18446744073709551616) : bits .or .u64 ((a * 2 ^ s : Nat) : Int) (b : Int) = ((a * 2 ^ s + b : Nat) : Int) := by
  rw [bits_or_u64_nat _ _ (by omega) (by omega)]
  have e := Nat.two_pow_add_eq_or_of_lt hb a
  rw [Nat.mul_comm] at e
  rw [e]

/-- The two words of what is shifted. -/
theorem shifted (hi lo y s : Int) (h0 : 0 ≤ hi) (h1 : hi < y) (l0 : 0 ≤ lo) (l1 : lo < 18446744073709551616) (s0 : 0 ≤ s) (s1 : s ≤ 63) (hy : y * 2 ^ s.toNat < 18446744073709551616) :
    bits .or .u64 (IntKind.u64.wrap (hi * 2 ^ s.toNat)) (lo / 2 ^ (64 - s).toNat) = hi * 2 ^ s.toNat + lo / 2 ^ (64 - s).toNat ∧
    0 ≤ hi * 2 ^ s.toNat + lo / 2 ^ (64 - s).toNat ∧ hi * 2 ^ s.toNat + lo / 2 ^ (64 - s).toNat < y * 2 ^ s.toNat ∧
    (hi * 2 ^ s.toNat + lo / 2 ^ (64 - s).toNat) * 18446744073709551616 + IntKind.u64.wrap (lo * 2 ^ s.toNat) = (hi * 18446744073709551616 + lo) * 2 ^ s.toNat := by
  obtain ⟨p1, p2, p3⟩ := pow_two s s0 s1
  have q1 : lo / 2 ^ (64 - s).toNat < 2 ^ s.toNat := by
    refine Int.ediv_lt_of_lt_mul p3 ?_
    omega
  have q2 : 0 ≤ lo / 2 ^ (64 - s).toNat := Int.ediv_nonneg l0 (by omega)
  have q3 : hi * 2 ^ s.toNat + 2 ^ s.toNat ≤ y * 2 ^ s.toNat := by
    have := Int.mul_le_mul_of_nonneg_right (show hi + 1 ≤ y by omega) (show 0 ≤ (2 : Int) ^ s.toNat by omega)
    rw [Int.add_mul] at this
    omega
  have q4 : 0 ≤ hi * 2 ^ s.toNat := Int.mul_nonneg h0 (by omega)
  have e1 : IntKind.u64.wrap (hi * 2 ^ s.toNat) = hi * 2 ^ s.toNat := by rw [IntKind.wrap_u64]; omega
  refine ⟨?_, by omega, by omega, ?_⟩
  · rw [e1]
    have h := or_sum hi.toNat s.toNat (lo / 2 ^ (64 - s).toNat).toNat (by
      have h2 : (((lo / 2 ^ (64 - s).toNat).toNat : Nat) : Int) < ((2 ^ s.toNat : Nat) : Int) := by rw [Int.natCast_pow, Int.toNat_of_nonneg q2]; exact q1
      exact Int.ofNat_lt.1 h2) (by
      have h2 : (((hi.toNat * 2 ^ s.toNat + (lo / 2 ^ (64 - s).toNat).toNat) : Nat) : Int) < ((18446744073709551616 : Nat) : Int) := by
        rw [Int.natCast_add, Int.natCast_mul, Int.natCast_pow, Int.toNat_of_nonneg q2, Int.toNat_of_nonneg h0]
        show hi * 2 ^ s.toNat + lo / 2 ^ (64 - s).toNat < 18446744073709551616
        omega
      exact Int.ofNat_lt.1 h2)
    rw [Int.natCast_add, Int.natCast_mul, Int.natCast_pow, Int.toNat_of_nonneg q2, Int.toNat_of_nonneg h0] at h
    exact h
  · have e2 : lo * 2 ^ s.toNat / 18446744073709551616 = lo / 2 ^ (64 - s).toNat := by
      rw [← p1, Int.mul_comm ((2 : Int) ^ s.toNat)]
      exact Int.mul_ediv_mul_of_pos_left lo _ p2
    rw [IntKind.wrap_u64]
    have e3 := Int.mul_ediv_add_emod (lo * 2 ^ s.toNat) 18446744073709551616
    rw [e2] at e3
    rw [Int.add_mul, Int.add_mul, Int.mul_assoc, Int.mul_assoc, Int.mul_comm (2 ^ s.toNat) 18446744073709551616]
    omega
end Go.Proofs.Ytmjbeplcabomdaa.Dv
