/-
  What the functions of the reference do: orders, and fractions of numbers of four digits.
-/
import Derived.Test.YtmjbeplcabomdaaFo
namespace Go.Proofs.Ytmjbeplcabomdaa
open Go.RowKit
set_option linter.unusedVariables false
set_option linter.unusedSimpArgs false

theorem and_63 (x : Int) (h0 : 0 ≤ x) (h1 : x < 18446744073709551616) : bits .and .u64 x 9223372036854775807 = x % 9223372036854775808 := by
  have h := bits_and_u64_nat x.toNat 9223372036854775807 (by omega) (by omega)
  rw [Int.toNat_of_nonneg h0] at h
  have e := Nat.and_two_pow_sub_one_eq_mod x.toNat 63
  simp only [Nat.reducePow, Nat.reduceSub] at e
  rw [e] at h
  refine Eq.trans h ?_
  omega
theorem or_32 (a b : Int) (a0 : 0 ≤ a) (a1 : a < 4294967296) (c0 : 0 ≤ b) (c1 : b < 4294967296) : bits .or .u64 (a * 4294967296) b = a * 4294967296 + b := by
  have h := Dv.or_sum a.toNat 32 b.toNat (by simp only [Nat.reducePow]; omega) (by simp only [Nat.reducePow]; omega)
  have e2 : ((a.toNat * 2 ^ 32 : Nat) : Int) = a * 4294967296 := by rw [Int.natCast_mul, Int.toNat_of_nonneg a0]; rfl
  have e3 : ((a.toNat * 2 ^ 32 + b.toNat : Nat) : Int) = a * 4294967296 + b := by rw [Int.natCast_add, Int.natCast_mul, Int.toNat_of_nonneg a0, Int.toNat_of_nonneg c0]; rfl
  rw [e3, e2, Int.toNat_of_nonneg c0] at h
  exact h

set_option maxHeartbeats 1600000 in
theorem ref_Small (m : Int) (h0 : 0 ≤ m) (h1 : m < 340282366920938463463374607431768211456) (w : World) :
    Calls Try.prog 103 #[.agg #[.int .u64 (dg0 m), .int .u64 (dg1 m), .int .u64 (dg2 m), .int .u64 (dg3 m)]] w fun e w' => e = .returned (.tuple #[.int .i64 (m % 9223372036854775808), .bool (fitB m)]) ∧ Below w.heap.size w w' := by
  obtain ⟨a1, a2, a3, a4, a5, a6, a7, a8⟩ := dg_bd m
  have hO := or_32 (dg1 m) (dg0 m) a3 a4 a1 a2
  have hA := and_63 (dg1 m * 4294967296 + dg0 m) (by omega) (by omega)
  have hV : (dg1 m * 4294967296 + dg0 m) % 9223372036854775808 = m % 9223372036854775808 := by unfold dg1 dg0; omega
  rw [hV] at hA
  have hk : (dg2 m ≠ 0 ∧ fitB m = false) ∨ (dg2 m = 0 ∧ dg3 m ≠ 0 ∧ fitB m = false) ∨ (dg2 m = 0 ∧ dg3 m = 0 ∧ fitB m = decide (dg1 m * 4294967296 + dg0 m ≤ 1000000000000000000)) := by
    have sm := dg_sum m h0 h1
    unfold fitB
    simp only [decide_eq_decide, decide_eq_false_iff_not]
    omega
  clear hV
  have v0 : 0 ≤ m % 9223372036854775808 := by omega
  have v1 : m % 9223372036854775808 < 9223372036854775808 := by omega
  generalize m % 9223372036854775808 = v at *
  generalize dg0 m = x0 at *
  generalize dg1 m = x1 at *
  generalize dg2 m = x2 at *
  generalize dg3 m = x3 at *
  rcases hk with ⟨k1, kr⟩ | ⟨k1, k2, kr⟩ | ⟨k1, k2, kr⟩
  · have K1 : (x2 == 0) = false := by simp [k1]
    have HR := Lib.hid kr; clear kr k1
    have dAl := dAl; have dSt := dSt; have xC := ext_cell; have xF := ext_frozen; have xS := ext_set; have xN := ext_drewN; have xD := ext_drew; have xL := ext_lt; have xE := ext_ne; have xG := ext_nr; have xX := ext_ext; have xL1 := ext_lt1; have xL2 := ext_lt2; have xL3 := ext_lt3; have xM0 := ext_le0; have xM1 := ext_le1; have xM2 := ext_le2
    go_enter Try.func103, Try.ntmps103
    go_wp2
    go_ret2
    exact ⟨ret_ib rfl HR.out.symm, by (repeat (first | with_reducible exact b0 _ | (with_reducible refine bext ?_ _ _) | (with_reducible refine below_drewN ?_ _) | (with_reducible refine Below.drew ?_) | (with_reducible refine bal ?_ _)))⟩
  · have K1 : (x2 == 0) = true := by simp [k1]
    have K2 : (x3 == 0) = false := by simp [k2]
    have HR := Lib.hid kr; clear kr k1 k2
    have dAl := dAl; have dSt := dSt; have xC := ext_cell; have xF := ext_frozen; have xS := ext_set; have xN := ext_drewN; have xD := ext_drew; have xL := ext_lt; have xE := ext_ne; have xG := ext_nr; have xX := ext_ext; have xL1 := ext_lt1; have xL2 := ext_lt2; have xL3 := ext_lt3; have xM0 := ext_le0; have xM1 := ext_le1; have xM2 := ext_le2
    go_enter Try.func103, Try.ntmps103
    go_wp2
    go_ret2
    exact ⟨ret_ib rfl HR.out.symm, by (repeat (first | with_reducible exact b0 _ | (with_reducible refine bext ?_ _ _) | (with_reducible refine below_drewN ?_ _) | (with_reducible refine Below.drew ?_) | (with_reducible refine bal ?_ _)))⟩
  · have K1 : (x2 == 0) = true := by simp [k1]
    have K2 : (x3 == 0) = true := by simp [k2]
    have HR := Lib.hid kr; clear kr k1 k2
    have dAl := dAl; have dSt := dSt; have xC := ext_cell; have xF := ext_frozen; have xS := ext_set; have xN := ext_drewN; have xD := ext_drew; have xL := ext_lt; have xE := ext_ne; have xG := ext_nr; have xX := ext_ext; have xL1 := ext_lt1; have xL2 := ext_lt2; have xL3 := ext_lt3; have xM0 := ext_le0; have xM1 := ext_le1; have xM2 := ext_le2
    go_enter Try.func103, Try.ntmps103
    go_wp2
    go_ret2
    exact ⟨ret_ib rfl HR.out.symm, by (repeat (first | with_reducible exact b0 _ | (with_reducible refine bext ?_ _ _) | (with_reducible refine below_drewN ?_ _) | (with_reducible refine Below.drew ?_) | (with_reducible refine bal ?_ _)))⟩

end Go.Proofs.Ytmjbeplcabomdaa
