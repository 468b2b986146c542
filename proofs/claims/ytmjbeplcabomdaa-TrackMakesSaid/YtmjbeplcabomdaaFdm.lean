/-
  Plain numbers: how two digits are divided by a two-digit number whose first digit is great (the estimate of the first digit of the quotient, and what becomes of it).
-/
import Derived.WalkKit
namespace Go.Proofs.Ytmjbeplcabomdaa.Dv
set_option linter.unusedVariables false

theorem prod (q yn1 yn0 Y : Int) (hY : Y = yn1 * 4294967296 + yn0) : q * Y = 4294967296 * (q * yn1) + q * yn0 := by
  rw [hY, Int.mul_add, ← Int.mul_assoc]; omega

theorem init (yn1 yn0 Y un u1 : Int) (hY : Y = yn1 * 4294967296 + yn0) (y1 : 2147483648 ≤ yn1) (y2 : 0 ≤ yn0) (y3 : yn0 < 4294967296)
    (h0 : 0 ≤ un) (h1 : un < Y) (u0 : 0 ≤ u1) (u2 : u1 < 4294967296) :
    0 ≤ un / yn1 ∧ un / yn1 ≤ 4294967297 ∧ 0 ≤ un % yn1 ∧ un % yn1 < yn1 ∧ (un / yn1) * yn1 + un % yn1 = un ∧ un * 4294967296 + u1 < (un / yn1 + 1) * Y := by
  have e0 : 0 ≤ un / yn1 := Int.ediv_nonneg h0 (by omega)
  have e1 := Int.emod_nonneg un (show yn1 ≠ 0 by omega)
  have e2 := Int.emod_lt_of_pos un (show 0 < yn1 by omega)
  have e3 : (un / yn1) * yn1 + un % yn1 = un := by rw [Int.mul_comm]; exact Int.mul_ediv_add_emod un yn1
  have e5 : un / yn1 < 4294967298 := by
    refine Int.ediv_lt_of_lt_mul (by omega) ?_
    omega
  refine ⟨e0, by omega, e1, e2, e3, ?_⟩
  have e6 := prod (un / yn1 + 1) yn1 yn0 Y hY
  have e7 : 0 ≤ (un / yn1 + 1) * yn0 := Int.mul_nonneg (by omega) y2
  have e8 : (un / yn1 + 1) * yn1 = (un / yn1) * yn1 + yn1 := by rw [Int.add_mul]; omega
  omega

theorem stepA (q Y un u1 : Int) (h1 : un < Y) (hY : 0 < Y) (u2 : u1 < 4294967296) (hq : 4294967296 ≤ q) : un * 4294967296 + u1 < q * Y := by
  have : 4294967296 * Y ≤ q * Y := Int.mul_le_mul_of_nonneg_right hq (by omega)
  omega
theorem stepB (q r yn1 yn0 Y un u1 : Int) (hY : Y = yn1 * 4294967296 + yn0) (hr : q * yn1 + r = un) (ht : 4294967296 * r + u1 < q * yn0) : un * 4294967296 + u1 < q * Y := by
  have := prod q yn1 yn0 Y hY
  omega
theorem next (q r yn1 un : Int) (hr : q * yn1 + r = un) : (q - 1) * yn1 + (r + yn1) = un := by
  rw [Int.sub_mul]; omega
theorem brk (q r yn1 yn0 Y un u1 : Int) (hY : Y = yn1 * 4294967296 + yn0) (y2 : 0 ≤ yn0) (y3 : yn0 < 4294967296) (u0 : 0 ≤ u1)
    (hr : q * yn1 + r = un) (q0 : 0 ≤ q) (hq : q ≤ 4294967296) (hb : 4294967296 ≤ r) : q * Y ≤ un * 4294967296 + u1 := by
  have h := prod q yn1 yn0 Y hY
  have : q * yn0 ≤ 4294967296 * 4294967295 := Int.mul_le_mul hq (by omega) y2 (by omega)
  omega
theorem stop (q r yn1 yn0 Y un u1 : Int) (hY : Y = yn1 * 4294967296 + yn0) (hr : q * yn1 + r = un) (ht : ¬ 4294967296 * r + u1 < q * yn0) : q * Y ≤ un * 4294967296 + u1 := by
  have := prod q yn1 yn0 Y hY
  omega
theorem lt_b (q Y un u1 : Int) (h1 : un < Y) (hY : 0 < Y) (u2 : u1 < 4294967296) (h : q * Y ≤ un * 4294967296 + u1) : q ≤ 4294967295 := by
  by_cases hq : 4294967296 ≤ q
  · have := stepA q Y un u1 h1 hY u2 hq
    omega
  · omega
theorem wrap3 (un u1 q Y M : Int) (hM : un * 4294967296 + u1 - q * Y = M) (m0 : 0 ≤ M) (m1 : M < 18446744073709551616) :
    IntKind.u64.wrap (IntKind.u64.wrap (IntKind.u64.wrap (un * 4294967296) + u1) - IntKind.u64.wrap (q * Y)) = M := by
  rw [IntKind.wrap_u64, IntKind.wrap_u64, IntKind.wrap_u64, IntKind.wrap_u64]
  omega
theorem mulb (q yn0 : Int) (i1 : 0 ≤ q) (hq : q ≤ 4294967295) (y2 : 0 ≤ yn0) (y3 : yn0 < 4294967296) : 0 ≤ q * yn0 ∧ q * yn0 ≤ 18446744065119617025 :=
  ⟨Int.mul_nonneg i1 y2, Int.mul_le_mul (c := 4294967295) (d := 4294967295) hq (by omega) y2 (by omega)⟩
theorem digit (q Y U : Int) (hY : 0 < Y) (h1 : q * Y ≤ U) (h2 : U < (q + 1) * Y) : q = U / Y ∧ U - q * Y = U % Y ∧ 0 ≤ U - q * Y ∧ U - q * Y < Y := by
  have e : (q + 1) * Y = q * Y + Y := by rw [Int.add_mul]; omega
  have e1 : U / Y = q := by
    have a : q ≤ U / Y := Int.le_ediv_of_mul_le hY h1
    have b : U / Y < q + 1 := Int.ediv_lt_of_lt_mul hY h2
    omega
  have e2 := Int.mul_ediv_add_emod U Y
  rw [e1, Int.mul_comm] at e2
  omega
/-- Two digits of the quotient, one after the other. -/
theorem two (U Y u0 : Int) (hY : 0 < Y) (h0 : 0 ≤ u0) (h1 : u0 < 4294967296) :
    (U * 4294967296 + u0) / Y = U / Y * 4294967296 + (U % Y * 4294967296 + u0) / Y ∧ (U * 4294967296 + u0) % Y = (U % Y * 4294967296 + u0) % Y := by
  have e : U * 4294967296 + u0 = (U % Y * 4294967296 + u0) + Y * (U / Y * 4294967296) := by
    have h := Int.mul_ediv_add_emod U Y
    rw [← Int.mul_assoc]
    omega
  constructor
  · rw [e, Int.add_mul_ediv_left _ _ (by omega)]; omega
  · rw [e, Int.add_mul_emod_self_left]
/-- What is scaled and divided is what was divided. -/
theorem scaled (N y S : Int) (hS : 0 < S) (hy : 0 < y) : N * S / (y * S) = N / y ∧ N * S % (y * S) / S = N % y := by
  constructor
  · exact Int.mul_ediv_mul_of_pos_left N y hS
  · rw [Int.mul_comm N S, Int.mul_comm y S, Int.mul_emod_mul_of_pos _ _ hS, Int.mul_ediv_cancel_left _ (by omega)]
end Go.Proofs.Ytmjbeplcabomdaa.Dv
