import Derived.Test.YtmjbeplcabomdaaFa
import Derived.Test.YtmjbeplcabomdaaFd
import Derived.Shelf.Spec.BitsCarry
namespace Go.Proofs.Ytmjbeplcabomdaa
open Go.RowKit
set_option linter.unusedVariables false
set_option linter.unusedSimpArgs false
theorem prod_digits (p q r s : Int) (hp : 0 ≤ p ∧ p ≤ 4294967295 * 4294967295) (hq : 0 ≤ q ∧ q ≤ 4294967295 * 4294967295) (hr : 0 ≤ r ∧ r ≤ 4294967295 * 4294967295) (hs : 0 ≤ s ∧ s ≤ 4294967295 * 4294967295) :
    p % 4294967296 = dg0 (p + (q + r) * 4294967296 + s * 18446744073709551616) ∧ ((p / 4294967296 + q) % 4294967296 + r) % 18446744073709551616 % 18446744073709551616 % 4294967296 = dg1 (p + (q + r) * 4294967296 + s * 18446744073709551616) ∧
    (((p / 4294967296 + q) % 4294967296 + r) % 18446744073709551616 % 18446744073709551616 / 4294967296 + ((p / 4294967296 + q) / 4294967296 + s)) % 18446744073709551616 % 4294967296 = dg2 (p + (q + r) * 4294967296 + s * 18446744073709551616) ∧
    (((p / 4294967296 + q) % 4294967296 + r) % 18446744073709551616 % 18446744073709551616 / 4294967296 + ((p / 4294967296 + q) / 4294967296 + s)) % 18446744073709551616 / 4294967296 % 18446744073709551616 = dg3 (p + (q + r) * 4294967296 + s * 18446744073709551616) := by
  have e1 : ((p / 4294967296 + q) % 4294967296 + r) % 18446744073709551616 % 18446744073709551616 = (p / 4294967296 + q) % 4294967296 + r := by omega
  rw [e1]
  have e2 : (((p / 4294967296 + q) % 4294967296 + r) / 4294967296 + ((p / 4294967296 + q) / 4294967296 + s)) % 18446744073709551616 = ((p / 4294967296 + q) % 4294967296 + r) / 4294967296 + ((p / 4294967296 + q) / 4294967296 + s) := by omega
  rw [e2]
  have e3 : (((p / 4294967296 + q) % 4294967296 + r) / 4294967296 + ((p / 4294967296 + q) / 4294967296 + s)) / 4294967296 % 18446744073709551616 = (((p / 4294967296 + q) % 4294967296 + r) / 4294967296 + ((p / 4294967296 + q) / 4294967296 + s)) / 4294967296 := by omega
  rw [e3]
  refine dg_of _ _ _ _ _ ?_ ?_ ?_ ?_ ?_ ?_ ?_ ?_ ?_ <;> omega
theorem ret_big {m a b c d : Int} (h : a = dg0 m ∧ b = dg1 m ∧ c = dg2 m ∧ d = dg3 m) : Ending.returned (.agg #[.int .u64 a, .int .u64 b, .int .u64 c, .int .u64 d]) = .returned (.agg #[.int .u64 (dg0 m), .int .u64 (dg1 m), .int .u64 (dg2 m), .int .u64 (dg3 m)]) := by
  obtain ⟨rfl, rfl, rfl, rfl⟩ := h; rfl
set_option maxHeartbeats 400000 in
theorem ref_big (n : Int) (h0 : 0 ≤ n) (h1 : n < 18446744073709551616) (w : World) :
    Calls Try.prog 105 #[.int .u64 n] w fun e w' => e = .returned (.agg #[.int .u64 (n % 4294967296), .int .u64 (n / 4294967296), .int .u64 0, .int .u64 0]) ∧ ∃ c : Array Value, w' = w.alloc (.cells c 138) := by
  have ha := Dv.and_lo n h0 h1
  go_enter Try.func105, Try.ntmps105
  go_wp2
  refine bodyPost_ret (by simp [results, Try.results105, go_sem, ext_ext, ext_cell]; try rfl) rfl ?_
  exact ⟨rfl, _, rfl⟩

set_option maxHeartbeats 3200000 in
theorem ref_Product (a b : Int) (h0 : 0 ≤ a) (h1 : a < 18446744073709551616) (i0 : 0 ≤ b) (i1 : b < 18446744073709551616) (w : World) :
    Calls Try.prog 102 #[.int .u64 a, .int .u64 b] w fun e w' => e = .returned (.agg #[.int .u64 (dg0 (a * b)), .int .u64 (dg1 (a * b)), .int .u64 (dg2 (a * b)), .int .u64 (dg3 (a * b))]) ∧ ∃ (c1 c2 c3 c4 c5 c6 : Array Value) (n : Nat), w' = ((((((w.alloc (.cells c1 138)).alloc (.cells c2 138)).alloc (.cells c3 138)).alloc (.cells c4 138)).alloc (.cells c5 138)).alloc (.cells c6 138)).drewN n := by
  have A1 := fun w => ref_big a h0 h1 w
  have A2 := fun w => ref_big b i0 i1 w
  have b1 : 0 ≤ a % 4294967296 := by omega
  have b2 : a % 4294967296 < 4294967296 := by omega
  have b3 : 0 ≤ a / 4294967296 := by omega
  have b4 : a / 4294967296 < 4294967296 := by omega
  have c1 : 0 ≤ b % 4294967296 := by omega
  have c2 : b % 4294967296 < 4294967296 := by omega
  have c3 : 0 ≤ b / 4294967296 := by omega
  have c4 : b / 4294967296 < 4294967296 := by omega
  have hab : a * b = a % 4294967296 * (b % 4294967296) + (a % 4294967296 * (b / 4294967296) + a / 4294967296 * (b % 4294967296)) * 4294967296 + a / 4294967296 * (b / 4294967296) * 18446744073709551616 := by
    have e1 : a = a / 4294967296 * 4294967296 + a % 4294967296 := by omega
    have e2 : b = b / 4294967296 * 4294967296 + b % 4294967296 := by omega
    generalize a / 4294967296 = p at *
    generalize a % 4294967296 = q at *
    generalize b / 4294967296 = r at *
    generalize b % 4294967296 = s at *
    subst e1; subst e2
    grind
  generalize a % 4294967296 = x0 at *
  generalize a / 4294967296 = x1 at *
  generalize b % 4294967296 = y0 at *
  generalize b / 4294967296 = y1 at *
  have p00 := mul_bd x0 y0 4294967295 4294967295 b1 (by omega) c1 (by omega)
  have p01 := mul_bd x0 y1 4294967295 4294967295 b1 (by omega) c3 (by omega)
  have p10 := mul_bd x1 y0 4294967295 4294967295 b3 (by omega) c1 (by omega)
  have p11 := mul_bd x1 y1 4294967295 4294967295 b3 (by omega) c3 (by omega)
  have HAB := Lib.hid hab
  clear hab
  have dAl := dAl; have dSt := dSt; have xC := ext_cell; have xF := ext_frozen; have xS := ext_set; have xN := ext_drewN; have xD := ext_drew; have xL := ext_lt; have xE := ext_ne; have xG := ext_nr; have xX := ext_ext; have xL1 := ext_lt1; have xL2 := ext_lt2; have xL3 := ext_lt3; have xM0 := ext_le0; have xM1 := ext_le1; have xM2 := ext_le2
  go_enter Try.func102, Try.ntmps102
  go_wp2_with fail
  refine (A1 _).mono ?_
  rintro e w1 ⟨rfl, u1, rfl⟩
  go_wp2_with fail
  refine (A2 _).mono ?_
  rintro e w1 ⟨rfl, u2, rfl⟩
  go_wp2
  clear A1 A2
  refine wp_loop_rounds 3 ?_
  rw [rounds_succ]
  go_wp2
  refine wp_loop_rounds 3 ?_
  rw [rounds_succ]
  go_wp2
  go_quiet (fail)
  go_wp2
  rw [rounds_succ]
  go_wp2
  go_quiet (fail)
  go_wp2
  rw [rounds_succ]
  go_wp2
  rw [rounds_succ]
  go_wp2
  refine wp_loop_rounds 3 ?_
  rw [rounds_succ]
  go_wp2
  go_quiet (fail)
  go_wp2
  rw [rounds_succ]
  go_wp2
  go_quiet (fail)
  go_wp2
  rw [rounds_succ]
  go_wp2
  rw [rounds_succ]
  go_wp2
  refine bodyPost_ret (by simp [results, Try.results102, go_sem, ext_ext, ext_cell]; try rfl) rfl ?_
  refine ⟨?_, _, _, _, _, _, _, _, rfl⟩
  rw [HAB.out]
  generalize x0 * y0 = p at *
  generalize x0 * y1 = q at *
  generalize x1 * y0 = r at *
  generalize x1 * y1 = s at *
  simp (disch := omega) only [Dv.and_lo, IntKind.wrap_u64]
  refine ret_big ?_
  exact prod_digits p q r s p00 p01 p10 p11
end Go.Proofs.Ytmjbeplcabomdaa
