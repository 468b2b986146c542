/-
  The reference's cosines of at most a quarter of a turn, walked.
-/
import Derived.Test.YtmjbeplcabomdaaTc
namespace Go.Proofs.Ytmjbeplcabomdaa
open Go.RowKit
set_option linter.unusedVariables false
set_option linter.unusedSimpArgs false

theorem an_cast (k n : Nat) : ((anR k n : Nat) : Int) = (628318530717958648 : Int) * k / n := by
  rw [anR, nmul, ndiv, castd]
  congr 1
theorem an_bd {k n : Nat} (h1 : 1 ≤ n) (hk : 8 * k ≤ n) : anR k n ≤ 78539816339744831 := by
  rw [anR, nmul, ndiv]
  refine Nat.div_le_of_le_mul ?_
  rw [Nat.mul_comm n]
  have := Nat.mul_le_mul_left 78539816339744831 hk
  omega

set_option maxHeartbeats 1600000 in
theorem ref5_eighth (k n : Nat) (h1 : 1 ≤ n) (h2 : n ≤ 40000) (hk : 8 * k ≤ n) (w : World) :
    Calls Try.prog 98 #[.int .u64 k, .int .u64 n] w fun e w' => e = .returned (.tuple #[.int .u64 (coR k n : Nat), .int .u64 (siR k n : Nat)]) ∧ Below w.heap.size w w' := by
  have b := an_bd h1 hk
  have m0 : (0 : Int) ≤ 628318530717958648 * k ∧ (628318530717958648 : Int) * k ≤ 628318530717958648 * 5000 := by omega
  have hc := an_cast k n
  have A1 : ∀ w, Calls Try.prog 102 #[.int .u64 628318530717958648, .int .u64 k] w fun e w' => e = .returned (.agg #[.int .u64 (dg0 (628318530717958648 * k)), .int .u64 (dg1 (628318530717958648 * k)), .int .u64 (dg2 (628318530717958648 * k)), .int .u64 (dg3 (628318530717958648 * k))]) ∧ Below w.heap.size w w' := by
    intro w
    refine (ref_Product 628318530717958648 k (by omega) (by omega) (by omega) (by omega) w).mono ?_
    rintro e w' ⟨rfl, c1, c2, c3, c4, c5, c6, n, h⟩
    exact ⟨rfl, Below6 h⟩
  have A2 := fun w => ref_Over ((628318530717958648 : Int) * k) n m0.1 (by omega) (by omega) (by omega) w
  rw [← hc] at A2
  have A3 := fun w => ref_Small ((anR k n : Nat) : Int) (by omega) (by omega) w
  have hs : ((anR k n : Nat) : Int) % 9223372036854775808 = (anR k n : Nat) := by omega
  rw [hs] at A3
  have A4 := fun w => ref5_series1 (anR k n) 100000000000000000 (by omega) (by omega) w
  have A5 := fun w => ref5_series2 (anR k n) (anR k n) (by omega) (by omega) w
  have e1 : coR k n = rsN (tmN (anR k n) (anR k n)) 12 100000000000000000 100000000000000000 1 true := by rw [coR]
  have e2 : siR k n = rsN (tmN (anR k n) (anR k n)) 12 (anR k n) (anR k n) 2 true := by rw [siR]
  rw [← e1] at A4
  rw [← e2] at A5
  clear e1 e2 hc hs
  generalize coR k n = x at *
  generalize siR k n = y at *
  generalize anR k n = q at *
  generalize (628318530717958648 : Int) * k % n = r at *
  generalize fitB (q : Int) = f at *
  generalize dg0 ((628318530717958648 : Int) * k) = x0 at *
  generalize dg1 ((628318530717958648 : Int) * k) = x1 at *
  generalize dg2 ((628318530717958648 : Int) * k) = x2 at *
  generalize dg3 ((628318530717958648 : Int) * k) = x3 at *
  generalize dg0 (q : Int) = y0 at *
  generalize dg1 (q : Int) = y1 at *
  generalize dg2 (q : Int) = y2 at *
  generalize dg3 (q : Int) = y3 at *
  clear m0
  have dAl := dAl; have dSt := dSt; have xC := ext_cell; have xF := ext_frozen; have xS := ext_set; have xN := ext_drewN; have xD := ext_drew; have xL := ext_lt; have xE := ext_ne; have xG := ext_nr; have xX := ext_ext; have xL1 := ext_lt1; have xL2 := ext_lt2; have xL3 := ext_lt3; have xM0 := ext_le0; have xM1 := ext_le1; have xM2 := ext_le2
  go_enter Try.func98, Try.ntmps98
  go_wp2_with fail
  refine (A1 _).mono ?_
  rintro e w1c ⟨rfl, hb1c⟩
  obtain ⟨l1c, d1c, rfl⟩ := toExt hb1c
  clear hb1c
  go_wp2_with fail
  refine (A2 _).mono ?_
  rintro e w2c ⟨rfl, hb2c⟩
  obtain ⟨l2c, d2c, rfl⟩ := toExt hb2c
  clear hb2c
  go_wp2_with fail
  refine (A3 _).mono ?_
  rintro e w3c ⟨rfl, hb3c⟩
  obtain ⟨l3c, d3c, rfl⟩ := toExt hb3c
  clear hb3c
  go_wp2_with fail
  refine (A4 _).mono ?_
  rintro e w4c ⟨rfl, hb4c⟩
  obtain ⟨l4c, d4c, rfl⟩ := toExt hb4c
  clear hb4c
  go_wp2_with fail
  refine (A5 _).mono ?_
  rintro e w5c ⟨rfl, hb5c⟩
  obtain ⟨l5c, d5c, rfl⟩ := toExt hb5c
  clear hb5c
  go_wp2
  go_ret2
  exact ⟨rfl, by (repeat (first | with_reducible exact b0 _ | (with_reducible refine bext ?_ _ _) | (with_reducible refine below_drewN ?_ _) | (with_reducible refine Below.drew ?_) | (with_reducible refine bal ?_ _)))⟩

set_option maxHeartbeats 400000 in
theorem ref5_exact (k n : Nat) (b : Bool) (hk : k ≤ 100000) (w : World) :
    Calls Try.prog 99 #[.int .i64 k, .int .i64 n, .bool b] w fun e w' => e = .returned (.bool (cond b (exS k n) (exC k))) ∧ w' = w := by
  have e1 : exC k = decide (k = 0) := by
    rw [exC, Bool.eq_iff_iff]; simp [Nat.beq_eq]
  have e2 : exS k n = (decide (k = 0) || decide (12 * k = n)) := by
    rw [exS, nmul, Bool.eq_iff_iff]; simp [Nat.beq_eq]
  rw [e1, e2]
  clear e1 e2
  by_cases h0 : k = 0
  · subst h0
    cases b
    all_goals
      go_enter Try.func99, Try.ntmps99
      go_wp2
      go_ret
      exact ⟨by simp, rfl⟩
  · have t0 : ((k : Int) == 0) = false := by simp; omega
    cases b
    · go_enter Try.func99, Try.ntmps99
      go_wp2
      go_ret
      exact ⟨by simp [h0], rfl⟩
    · by_cases h1 : 12 * k = n
      · have t1 : ((12 * (k : Int)) == n) = true := by simp; omega
        go_enter Try.func99, Try.ntmps99
        go_wp2
        go_ret
        exact ⟨by simp [h0, h1], rfl⟩
      · have t1 : ((12 * (k : Int)) == n) = false := by simp; omega
        go_enter Try.func99, Try.ntmps99
        go_wp2
        go_ret
        exact ⟨by simp [h0, h1], rfl⟩

set_option maxHeartbeats 400000 in
theorem ref5_round (n : Int) (w : World) :
    Calls Try.prog 100 #[.int .i64 n] w fun e w' => e = .returned (.agg #[.int .i64 n, .int .i64 n]) ∧ Below w.heap.size w w' := by
  have dAl := dAl; have dSt := dSt; have xC := ext_cell; have xF := ext_frozen; have xS := ext_set; have xN := ext_drewN; have xD := ext_drew; have xL := ext_lt; have xE := ext_ne; have xG := ext_nr; have xX := ext_ext; have xL1 := ext_lt1; have xL2 := ext_lt2; have xL3 := ext_lt3; have xM0 := ext_le0; have xM1 := ext_le1; have xM2 := ext_le2
  go_enter Try.func100, Try.ntmps100
  go_wp2
  refine bodyPost_ret (by simp [results, Try.results100, go_sem, ext_ext, ext_cell]; try rfl) rfl ?_
  exact ⟨rfl, by (repeat (first | with_reducible exact b0 _ | (with_reducible refine bext ?_ _ _) | (with_reducible refine below_drewN ?_ _) | (with_reducible refine Below.drew ?_) | (with_reducible refine bal ?_ _)))⟩
end Go.Proofs.Ytmjbeplcabomdaa
