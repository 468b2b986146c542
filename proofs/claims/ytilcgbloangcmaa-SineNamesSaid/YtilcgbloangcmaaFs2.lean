/-
  What the functions of the reference do: orders, and fractions of numbers of four digits.
-/
import Derived.Test.YtilcgbloangcmaaFs
namespace Go.Proofs.Ytilcgbloangcmaa
open Go.RowKit
set_option linter.unusedVariables false
set_option linter.unusedSimpArgs false

set_option maxHeartbeats 400000 in
theorem ref_Both (n d n2 d2 : Int) (h0 : -9223372036854775808 ≤ n) (h1 : n ≤ 9223372036854775807) (h2 : -9223372036854775808 ≤ d) (h3 : d ≤ 9223372036854775807) (i0 : -9223372036854775808 ≤ n2) (i1 : n2 ≤ 9223372036854775807) (i2 : -9223372036854775808 ≤ d2) (i3 : d2 ≤ 9223372036854775807) (w : World) :
    Calls Try.prog 32 #[.agg #[.int .i64 n, .int .i64 d], .agg #[.int .i64 n2, .int .i64 d2]] w fun e w' => e = .returned (.int .i64 (chk2 n d n2 d2)) ∧ Below w.heap.size w w' := by
  have A1 := fun w => ref_Check n d h0 h1 h2 h3 w
  have A2 := fun w => ref_Check n2 d2 i0 i1 i2 i3 w
  by_cases ho : okF n d = true
  · have hr : chkI n d = 0 := by rw [chkI, if_pos ho]
    have hr2 : chk2 n d n2 d2 = chkI n2 d2 := by rw [chk2, if_pos ho]
    have HR := Lib.hid hr2
    rw [hr] at A1
    clear hr hr2 ho
    have dAl := dAl; have dSt := dSt; have xC := ext_cell; have xF := ext_frozen; have xS := ext_set; have xN := ext_drewN; have xD := ext_drew; have xL := ext_lt; have xE := ext_ne; have xG := ext_nr; have xX := ext_ext; have xL1 := ext_lt1; have xL2 := ext_lt2; have xL3 := ext_lt3; have xM0 := ext_le0; have xM1 := ext_le1; have xM2 := ext_le2
    go_enter Try.func32, Try.ntmps32
    go_wp2_with fail
    refine (A1 _).mono ?_
    rintro e w1c ⟨rfl, hb1c⟩
    obtain ⟨l1c, d1c, rfl⟩ := toExt hb1c
    clear hb1c
    go_wp2_with fail
    refine (A2 _).mono ?_
    rintro e w2c ⟨rfl, hb2c⟩
    obtain ⟨l2c, d2c, rfl⟩ := toExt hb2c
    clear hb2c
    go_wp2
    go_ret
    exact ⟨ret_i64 HR.out.symm, by (repeat (first | with_reducible exact b0 _ | (with_reducible refine bext ?_ _ _) | (with_reducible refine below_drewN ?_ _) | (with_reducible refine Below.drew ?_) | (with_reducible refine bal ?_ _)))⟩
  · have hr : chkI n d = 8 := by rw [chkI, if_neg ho]
    have hr2 : chk2 n d n2 d2 = 8 := by rw [chk2, if_neg ho]
    have HR := Lib.hid hr2
    rw [hr] at A1
    clear hr hr2 ho
    have dAl := dAl; have dSt := dSt; have xC := ext_cell; have xF := ext_frozen; have xS := ext_set; have xN := ext_drewN; have xD := ext_drew; have xL := ext_lt; have xE := ext_ne; have xG := ext_nr; have xX := ext_ext; have xL1 := ext_lt1; have xL2 := ext_lt2; have xL3 := ext_lt3; have xM0 := ext_le0; have xM1 := ext_le1; have xM2 := ext_le2
    go_enter Try.func32, Try.ntmps32
    go_wp2_with fail
    refine (A1 _).mono ?_
    rintro e w3c ⟨rfl, hb3c⟩
    obtain ⟨l3c, d3c, rfl⟩ := toExt hb3c
    clear hb3c
    go_wp2_with fail
    refine (A1 _).mono ?_
    rintro e w4c ⟨rfl, hb4c⟩
    obtain ⟨l4c, d4c, rfl⟩ := toExt hb4c
    clear hb4c
    go_wp2
    go_ret
    exact ⟨ret_i64 HR.out.symm, by (repeat (first | with_reducible exact b0 _ | (with_reducible refine bext ?_ _ _) | (with_reducible refine below_drewN ?_ _) | (with_reducible refine Below.drew ?_) | (with_reducible refine bal ?_ _)))⟩

set_option maxHeartbeats 1600000 in
theorem ref_below (m k : Int) (h0 : 0 ≤ m) (h1 : m < 340282366920938463463374607431768211456) (i0 : 0 ≤ k) (i1 : k < 340282366920938463463374607431768211456) (w : World) :
    Calls Try.prog 54 #[.agg #[.int .u64 (dg0 m), .int .u64 (dg1 m), .int .u64 (dg2 m), .int .u64 (dg3 m)], .agg #[.int .u64 (dg0 k), .int .u64 (dg1 k), .int .u64 (dg2 k), .int .u64 (dg3 k)]] w fun e w' => e = .returned (.bool (bigB k m)) ∧ Below w.heap.size w w' := by
  have hk : (dg3 m ≠ dg3 k ∧ bigB k m = decide (dg3 m < dg3 k)) ∨ (dg3 m = dg3 k ∧ dg2 m ≠ dg2 k ∧ bigB k m = decide (dg2 m < dg2 k)) ∨ (dg3 m = dg3 k ∧ dg2 m = dg2 k ∧ dg1 m ≠ dg1 k ∧ bigB k m = decide (dg1 m < dg1 k)) ∨ (dg3 m = dg3 k ∧ dg2 m = dg2 k ∧ dg1 m = dg1 k ∧ dg0 m ≠ dg0 k ∧ bigB k m = decide (dg0 m < dg0 k)) ∨ (dg3 m = dg3 k ∧ dg2 m = dg2 k ∧ dg1 m = dg1 k ∧ dg0 m = dg0 k ∧ bigB k m = false) := by
    obtain ⟨a1, a2, a3, a4, a5, a6, a7, a8⟩ := dg_bd m
    obtain ⟨c1, c2, c3, c4, c5, c6, c7, c8⟩ := dg_bd k
    have sm := dg_sum m h0 h1
    have sk := dg_sum k i0 i1
    unfold bigB
    simp only [decide_eq_decide, decide_eq_false_iff_not]
    omega
  generalize dg0 m = x0 at *
  generalize dg1 m = x1 at *
  generalize dg2 m = x2 at *
  generalize dg3 m = x3 at *
  generalize dg0 k = y0 at *
  generalize dg1 k = y1 at *
  generalize dg2 k = y2 at *
  generalize dg3 k = y3 at *
  rcases hk with ⟨k3, kr⟩ | ⟨k3, k2, kr⟩ | ⟨k3, k2, k1, kr⟩ | ⟨k3, k2, k1, k0, kr⟩ | ⟨k3, k2, k1, k0, kr⟩
  · have HR := Lib.hid kr; clear kr
    have K3 : (x3 != y3) = true := by simp; omega
    clear k3
    have dAl := dAl; have dSt := dSt; have xC := ext_cell; have xF := ext_frozen; have xS := ext_set; have xN := ext_drewN; have xD := ext_drew; have xL := ext_lt; have xE := ext_ne; have xG := ext_nr; have xX := ext_ext; have xL1 := ext_lt1; have xL2 := ext_lt2; have xL3 := ext_lt3; have xM0 := ext_le0; have xM1 := ext_le1; have xM2 := ext_le2
    go_enter Try.func54, Try.ntmps54
    go_wp2
    refine wp_loop_rounds 5 ?_
    rw [rounds_succ]
    go_wp2
    go_quiet (fail)
    go_wp2
    go_quiet (fail)
    go_wp2
    go_ret
    exact ⟨ret_bool HR.out.symm, by (repeat (first | with_reducible exact b0 _ | (with_reducible refine bext ?_ _ _) | (with_reducible refine below_drewN ?_ _) | (with_reducible refine Below.drew ?_) | (with_reducible refine bal ?_ _)))⟩
  · have HR := Lib.hid kr; clear kr
    have K3 : (x3 != y3) = false := by simp; omega
    have K2 : (x2 != y2) = true := by simp; omega
    clear k3 k2
    have dAl := dAl; have dSt := dSt; have xC := ext_cell; have xF := ext_frozen; have xS := ext_set; have xN := ext_drewN; have xD := ext_drew; have xL := ext_lt; have xE := ext_ne; have xG := ext_nr; have xX := ext_ext; have xL1 := ext_lt1; have xL2 := ext_lt2; have xL3 := ext_lt3; have xM0 := ext_le0; have xM1 := ext_le1; have xM2 := ext_le2
    go_enter Try.func54, Try.ntmps54
    go_wp2
    refine wp_loop_rounds 5 ?_
    rw [rounds_succ]
    go_wp2
    go_quiet (fail)
    go_wp2
    rw [rounds_succ]
    go_wp2
    go_quiet (fail)
    go_wp2
    go_quiet (fail)
    go_wp2
    go_ret
    exact ⟨ret_bool HR.out.symm, by (repeat (first | with_reducible exact b0 _ | (with_reducible refine bext ?_ _ _) | (with_reducible refine below_drewN ?_ _) | (with_reducible refine Below.drew ?_) | (with_reducible refine bal ?_ _)))⟩
  · have HR := Lib.hid kr; clear kr
    have K3 : (x3 != y3) = false := by simp; omega
    have K2 : (x2 != y2) = false := by simp; omega
    have K1 : (x1 != y1) = true := by simp; omega
    clear k3 k2 k1
    have dAl := dAl; have dSt := dSt; have xC := ext_cell; have xF := ext_frozen; have xS := ext_set; have xN := ext_drewN; have xD := ext_drew; have xL := ext_lt; have xE := ext_ne; have xG := ext_nr; have xX := ext_ext; have xL1 := ext_lt1; have xL2 := ext_lt2; have xL3 := ext_lt3; have xM0 := ext_le0; have xM1 := ext_le1; have xM2 := ext_le2
    go_enter Try.func54, Try.ntmps54
    go_wp2
    refine wp_loop_rounds 5 ?_
    rw [rounds_succ]
    go_wp2
    go_quiet (fail)
    go_wp2
    rw [rounds_succ]
    go_wp2
    go_quiet (fail)
    go_wp2
    rw [rounds_succ]
    go_wp2
    go_quiet (fail)
    go_wp2
    go_quiet (fail)
    go_wp2
    go_ret
    exact ⟨ret_bool HR.out.symm, by (repeat (first | with_reducible exact b0 _ | (with_reducible refine bext ?_ _ _) | (with_reducible refine below_drewN ?_ _) | (with_reducible refine Below.drew ?_) | (with_reducible refine bal ?_ _)))⟩
  · have HR := Lib.hid kr; clear kr
    have K3 : (x3 != y3) = false := by simp; omega
    have K2 : (x2 != y2) = false := by simp; omega
    have K1 : (x1 != y1) = false := by simp; omega
    have K0 : (x0 != y0) = true := by simp; omega
    clear k3 k2 k1 k0
    have dAl := dAl; have dSt := dSt; have xC := ext_cell; have xF := ext_frozen; have xS := ext_set; have xN := ext_drewN; have xD := ext_drew; have xL := ext_lt; have xE := ext_ne; have xG := ext_nr; have xX := ext_ext; have xL1 := ext_lt1; have xL2 := ext_lt2; have xL3 := ext_lt3; have xM0 := ext_le0; have xM1 := ext_le1; have xM2 := ext_le2
    go_enter Try.func54, Try.ntmps54
    go_wp2
    refine wp_loop_rounds 5 ?_
    rw [rounds_succ]
    go_wp2
    go_quiet (fail)
    go_wp2
    rw [rounds_succ]
    go_wp2
    go_quiet (fail)
    go_wp2
    rw [rounds_succ]
    go_wp2
    go_quiet (fail)
    go_wp2
    rw [rounds_succ]
    go_wp2
    go_quiet (fail)
    go_wp2
    go_quiet (fail)
    go_wp2
    go_ret
    exact ⟨ret_bool HR.out.symm, by (repeat (first | with_reducible exact b0 _ | (with_reducible refine bext ?_ _ _) | (with_reducible refine below_drewN ?_ _) | (with_reducible refine Below.drew ?_) | (with_reducible refine bal ?_ _)))⟩
  · have HR := Lib.hid kr; clear kr
    have K3 : (x3 != y3) = false := by simp; omega
    have K2 : (x2 != y2) = false := by simp; omega
    have K1 : (x1 != y1) = false := by simp; omega
    have K0 : (x0 != y0) = false := by simp; omega
    clear k3 k2 k1 k0
    have dAl := dAl; have dSt := dSt; have xC := ext_cell; have xF := ext_frozen; have xS := ext_set; have xN := ext_drewN; have xD := ext_drew; have xL := ext_lt; have xE := ext_ne; have xG := ext_nr; have xX := ext_ext; have xL1 := ext_lt1; have xL2 := ext_lt2; have xL3 := ext_lt3; have xM0 := ext_le0; have xM1 := ext_le1; have xM2 := ext_le2
    go_enter Try.func54, Try.ntmps54
    go_wp2
    refine wp_loop_rounds 5 ?_
    rw [rounds_succ]
    go_wp2
    go_quiet (fail)
    go_wp2
    rw [rounds_succ]
    go_wp2
    go_quiet (fail)
    go_wp2
    rw [rounds_succ]
    go_wp2
    go_quiet (fail)
    go_wp2
    rw [rounds_succ]
    go_wp2
    go_quiet (fail)
    go_wp2
    rw [rounds_succ]
    go_wp2
    go_ret
    exact ⟨ret_bool HR.out.symm, by (repeat (first | with_reducible exact b0 _ | (with_reducible refine bext ?_ _ _) | (with_reducible refine below_drewN ?_ _) | (with_reducible refine Below.drew ?_) | (with_reducible refine bal ?_ _)))⟩

theorem and_63 (x : Int) (h0 : 0 ≤ x) (h1 : x < 18446744073709551616) : bits .and .u64 x 9223372036854775807 = x % 9223372036854775808 := by
  have h := bits_and_u64_nat x.toNat 9223372036854775807 (by omega) (by omega)
  rw [Int.toNat_of_nonneg h0] at h
  have e := Nat.and_two_pow_sub_one_eq_mod x.toNat 63
  simp only [Nat.reducePow, Nat.reduceSub] at e
  rw [e] at h
  refine Eq.trans h ?_
  omega
theorem or_32 (a b : Int) (a0 : 0 ≤ a) (a1 : a < 4294967296) (c0 : 0 ≤ b) (c1 : b < 4294967296) : bits .or .u64 (a * 4294967296) b = a * 4294967296 + b := by
  have h := Dv.or_sum a.toNat 32 b.toNat (by simp only [Nat.reducePow]; omega) (by simp only [Nat.reducePow]; omega)
  have e2 : ((a.toNat * 2 ^ 32 : Nat) : Int) = a * 4294967296 := by rw [Int.natCast_mul, Int.toNat_of_nonneg a0]; rfl
  have e3 : ((a.toNat * 2 ^ 32 + b.toNat : Nat) : Int) = a * 4294967296 + b := by rw [Int.natCast_add, Int.natCast_mul, Int.toNat_of_nonneg a0, Int.toNat_of_nonneg c0]; rfl
  rw [e3, e2, Int.toNat_of_nonneg c0] at h
  exact h

set_option maxHeartbeats 1600000 in
theorem ref_Small (m : Int) (h0 : 0 ≤ m) (h1 : m < 340282366920938463463374607431768211456) (w : World) :
    Calls Try.prog 66 #[.agg #[.int .u64 (dg0 m), .int .u64 (dg1 m), .int .u64 (dg2 m), .int .u64 (dg3 m)]] w fun e w' => e = .returned (.tuple #[.int .i64 (m % 9223372036854775808), .bool (fitB m)]) ∧ Below w.heap.size w w' := by
  obtain ⟨a1, a2, a3, a4, a5, a6, a7, a8⟩ := dg_bd m
  have hO := or_32 (dg1 m) (dg0 m) a3 a4 a1 a2
  have hA := and_63 (dg1 m * 4294967296 + dg0 m) (by omega) (by omega)
  have hV : (dg1 m * 4294967296 + dg0 m) % 9223372036854775808 = m % 9223372036854775808 := by unfold dg1 dg0; omega
  rw [hV] at hA
  have hk : (dg2 m ≠ 0 ∧ fitB m = false) ∨ (dg2 m = 0 ∧ dg3 m ≠ 0 ∧ fitB m = false) ∨ (dg2 m = 0 ∧ dg3 m = 0 ∧ fitB m = decide (dg1 m * 4294967296 + dg0 m ≤ 1000000000000000000)) := by
    have sm := dg_sum m h0 h1
    unfold fitB
    simp only [decide_eq_decide, decide_eq_false_iff_not]
    omega
  clear hV
  have v0 : 0 ≤ m % 9223372036854775808 := by omega
  have v1 : m % 9223372036854775808 < 9223372036854775808 := by omega
  generalize m % 9223372036854775808 = v at *
  generalize dg0 m = x0 at *
  generalize dg1 m = x1 at *
  generalize dg2 m = x2 at *
  generalize dg3 m = x3 at *
  rcases hk with ⟨k1, kr⟩ | ⟨k1, k2, kr⟩ | ⟨k1, k2, kr⟩
  · have K1 : (x2 == 0) = false := by simp [k1]
    have HR := Lib.hid kr; clear kr k1
    have dAl := dAl; have dSt := dSt; have xC := ext_cell; have xF := ext_frozen; have xS := ext_set; have xN := ext_drewN; have xD := ext_drew; have xL := ext_lt; have xE := ext_ne; have xG := ext_nr; have xX := ext_ext; have xL1 := ext_lt1; have xL2 := ext_lt2; have xL3 := ext_lt3; have xM0 := ext_le0; have xM1 := ext_le1; have xM2 := ext_le2
    go_enter Try.func66, Try.ntmps66
    go_wp2
    go_ret2
    exact ⟨ret_ib rfl HR.out.symm, by (repeat (first | with_reducible exact b0 _ | (with_reducible refine bext ?_ _ _) | (with_reducible refine below_drewN ?_ _) | (with_reducible refine Below.drew ?_) | (with_reducible refine bal ?_ _)))⟩
  · have K1 : (x2 == 0) = true := by simp [k1]
    have K2 : (x3 == 0) = false := by simp [k2]
    have HR := Lib.hid kr; clear kr k1 k2
    have dAl := dAl; have dSt := dSt; have xC := ext_cell; have xF := ext_frozen; have xS := ext_set; have xN := ext_drewN; have xD := ext_drew; have xL := ext_lt; have xE := ext_ne; have xG := ext_nr; have xX := ext_ext; have xL1 := ext_lt1; have xL2 := ext_lt2; have xL3 := ext_lt3; have xM0 := ext_le0; have xM1 := ext_le1; have xM2 := ext_le2
    go_enter Try.func66, Try.ntmps66
    go_wp2
    go_ret2
    exact ⟨ret_ib rfl HR.out.symm, by (repeat (first | with_reducible exact b0 _ | (with_reducible refine bext ?_ _ _) | (with_reducible refine below_drewN ?_ _) | (with_reducible refine Below.drew ?_) | (with_reducible refine bal ?_ _)))⟩
  · have K1 : (x2 == 0) = true := by simp [k1]
    have K2 : (x3 == 0) = true := by simp [k2]
    have HR := Lib.hid kr; clear kr k1 k2
    have dAl := dAl; have dSt := dSt; have xC := ext_cell; have xF := ext_frozen; have xS := ext_set; have xN := ext_drewN; have xD := ext_drew; have xL := ext_lt; have xE := ext_ne; have xG := ext_nr; have xX := ext_ext; have xL1 := ext_lt1; have xL2 := ext_lt2; have xL3 := ext_lt3; have xM0 := ext_le0; have xM1 := ext_le1; have xM2 := ext_le2
    go_enter Try.func66, Try.ntmps66
    go_wp2
    go_ret2
    exact ⟨ret_ib rfl HR.out.symm, by (repeat (first | with_reducible exact b0 _ | (with_reducible refine bext ?_ _ _) | (with_reducible refine below_drewN ?_ _) | (with_reducible refine Below.drew ?_) | (with_reducible refine bal ?_ _)))⟩

set_option maxHeartbeats 1600000 in
theorem ref_lowest (s : Bool) (m k : Int) (h0 : 0 ≤ m) (h1 : m < 340282366920938463463374607431768211456) (i0 : 0 ≤ k) (i1 : k < 340282366920938463463374607431768211456) (w : World) :
    Calls Try.prog 57 #[.bool s, .agg #[.int .u64 (dg0 m), .int .u64 (dg1 m), .int .u64 (dg2 m), .int .u64 (dg3 m)], .agg #[.int .u64 (dg0 k), .int .u64 (dg1 k), .int .u64 (dg2 k), .int .u64 (dg3 k)]] w fun e w' => e = .returned (.tuple #[.agg #[.int .i64 (bdN s m k), .int .i64 (bdD false m k)], .int .i64 (bdE m k)]) ∧ Below w.heap.size w w' := by
  have A1 := fun w => ref_Small m h0 h1 w
  have A2 := fun w => ref_Small k i0 i1 w
  by_cases k1 : m ≤ 1000000000000000000
  · have e1 : fitB m = true := by simp [fitB, k1]
    have f1 : m % 9223372036854775808 = m := by omega
    rw [e1, f1] at A1
    by_cases k2 : k ≤ 1000000000000000000
    · have e2 : fitB k = true := by simp [fitB, k2]
      have f2 : k % 9223372036854775808 = k := by omega
      rw [e2, f2] at A2
      have r1 : bdN s m k = sv s m := by rw [bdN, if_pos ⟨k1, k2⟩]
      have r2 : bdD false m k = k := by rw [bdD, if_pos ⟨k1, k2⟩]; rfl
      have r3 : bdE m k = 0 := by rw [bdE, if_pos ⟨k1, k2⟩]
      have R1 := Lib.hid r1; have R2 := Lib.hid r2; have R3 := Lib.hid r3
      clear r1 r2 r3 e1 e2 f1 f2
      have dAl := dAl; have dSt := dSt; have xC := ext_cell; have xF := ext_frozen; have xS := ext_set; have xN := ext_drewN; have xD := ext_drew; have xL := ext_lt; have xE := ext_ne; have xG := ext_nr; have xX := ext_ext; have xL1 := ext_lt1; have xL2 := ext_lt2; have xL3 := ext_lt3; have xM0 := ext_le0; have xM1 := ext_le1; have xM2 := ext_le2
      cases s
      all_goals
        go_enter Try.func57, Try.ntmps57
        go_wp2_with fail
        refine (A1 _).mono ?_
        rintro e w5c ⟨rfl, hb5c⟩
        obtain ⟨l5c, d5c, rfl⟩ := toExt hb5c
        clear hb5c
        go_wp2_with fail
        refine (A2 _).mono ?_
        rintro e w6c ⟨rfl, hb6c⟩
        obtain ⟨l6c, d6c, rfl⟩ := toExt hb6c
        clear hb6c
        clear A1 A2
        go_wp2
        refine bodyPost_ret (by simp [results, Try.results57, go_sem, ext_ext, ext_cell]; try rfl) rfl ?_
        exact ⟨ret_fe (by rw [R1.out]; simp [sv]) R2.out.symm R3.out.symm, by (repeat (first | with_reducible exact b0 _ | (with_reducible refine bext ?_ _ _) | (with_reducible refine below_drewN ?_ _) | (with_reducible refine Below.drew ?_) | (with_reducible refine bal ?_ _)))⟩
    · have e2 : fitB k = false := by simp [fitB, k2]
      rw [e2] at A2
      have r1 : bdN s m k = 0 := by rw [bdN, if_neg (fun h => k2 h.2)]
      have r2 : bdD false m k = 0 := by rw [bdD, if_neg (fun h => k2 h.2)]
      have r3 : bdE m k = 16 := by rw [bdE, if_neg (fun h => k2 h.2)]
      have R1 := Lib.hid r1; have R2 := Lib.hid r2; have R3 := Lib.hid r3
      clear r1 r2 r3 e1 e2 f1
      have dAl := dAl; have dSt := dSt; have xC := ext_cell; have xF := ext_frozen; have xS := ext_set; have xN := ext_drewN; have xD := ext_drew; have xL := ext_lt; have xE := ext_ne; have xG := ext_nr; have xX := ext_ext; have xL1 := ext_lt1; have xL2 := ext_lt2; have xL3 := ext_lt3; have xM0 := ext_le0; have xM1 := ext_le1; have xM2 := ext_le2
      go_enter Try.func57, Try.ntmps57
      go_wp2_with fail
      refine (A1 _).mono ?_
      rintro e w7c ⟨rfl, hb7c⟩
      obtain ⟨l7c, d7c, rfl⟩ := toExt hb7c
      clear hb7c
      go_wp2_with fail
      refine (A2 _).mono ?_
      rintro e w8c ⟨rfl, hb8c⟩
      obtain ⟨l8c, d8c, rfl⟩ := toExt hb8c
      clear hb8c
      clear A1 A2
      go_wp2
      refine bodyPost_ret (by simp [results, Try.results57, go_sem, ext_ext, ext_cell]; try rfl) rfl ?_
      exact ⟨ret_fe R1.out.symm R2.out.symm R3.out.symm, by (repeat (first | with_reducible exact b0 _ | (with_reducible refine bext ?_ _ _) | (with_reducible refine below_drewN ?_ _) | (with_reducible refine Below.drew ?_) | (with_reducible refine bal ?_ _)))⟩
  · have e1 : fitB m = false := by simp [fitB, k1]
    rw [e1] at A1
    have r1 : bdN s m k = 0 := by rw [bdN, if_neg (fun h => k1 h.1)]
    have r2 : bdD false m k = 0 := by rw [bdD, if_neg (fun h => k1 h.1)]
    have r3 : bdE m k = 16 := by rw [bdE, if_neg (fun h => k1 h.1)]
    have R1 := Lib.hid r1; have R2 := Lib.hid r2; have R3 := Lib.hid r3
    clear r1 r2 r3 e1
    have dAl := dAl; have dSt := dSt; have xC := ext_cell; have xF := ext_frozen; have xS := ext_set; have xN := ext_drewN; have xD := ext_drew; have xL := ext_lt; have xE := ext_ne; have xG := ext_nr; have xX := ext_ext; have xL1 := ext_lt1; have xL2 := ext_lt2; have xL3 := ext_lt3; have xM0 := ext_le0; have xM1 := ext_le1; have xM2 := ext_le2
    go_enter Try.func57, Try.ntmps57
    go_wp2_with fail
    refine (A1 _).mono ?_
    rintro e w9c ⟨rfl, hb9c⟩
    obtain ⟨l9c, d9c, rfl⟩ := toExt hb9c
    clear hb9c
    go_wp2_with fail
    refine (A2 _).mono ?_
    rintro e w10c ⟨rfl, hb10c⟩
    obtain ⟨l10c, d10c, rfl⟩ := toExt hb10c
    clear hb10c
    clear A1 A2
    go_wp2
    refine bodyPost_ret (by simp [results, Try.results57, go_sem, ext_ext, ext_cell]; try rfl) rfl ?_
    exact ⟨ret_fe R1.out.symm R2.out.symm R3.out.symm, by (repeat (first | with_reducible exact b0 _ | (with_reducible refine bext ?_ _ _) | (with_reducible refine below_drewN ?_ _) | (with_reducible refine Below.drew ?_) | (with_reducible refine bal ?_ _)))⟩
end Go.Proofs.Ytilcgbloangcmaa
