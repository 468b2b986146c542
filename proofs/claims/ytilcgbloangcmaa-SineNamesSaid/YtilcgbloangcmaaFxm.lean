/-
  ref.Make.
-/
import Derived.Test.YtilcgbloangcmaaFxq
namespace Go.Proofs.Ytilcgbloangcmaa
open Go.RowKit
set_option linter.unusedVariables false
set_option linter.unusedSimpArgs false

set_option maxRecDepth 100000 in
set_option maxHeartbeats 1600000 in
theorem ref_Make (num den : Int) (a1 : -9223372036854775808 ≤ num) (a2 : num ≤ 9223372036854775807) (a3 : -9223372036854775808 ≤ den) (a4 : den ≤ 9223372036854775807) (w : World) :
    Calls Try.prog 48 #[.int .i64 num, .int .i64 den] w fun e w' =>
      e = .returned (.tuple #[.agg #[.int .i64 (maN num den), .int .i64 (maD num den)], .int .i64 (maE num den)]) ∧ Below w.heap.size w w' := by
  by_cases hz : den = 0
  · have r1 : maN num den = 0 := by rw [maN, if_pos hz]
    have r2 : maD num den = 0 := by rw [maD, if_pos hz]
    have r3 : maE num den = 18 := by rw [maE, if_pos hz]
    rw [r1, r2, r3]
    subst hz
    clear r1 r2 r3
    have dAl := dAl; have dSt := dSt; have xC := ext_cell; have xF := ext_frozen; have xS := ext_set; have xN := ext_drewN; have xD := ext_drew; have xL := ext_lt; have xE := ext_ne; have xG := ext_nr; have xX := ext_ext; have xL1 := ext_lt1; have xL2 := ext_lt2; have xL3 := ext_lt3; have xM0 := ext_le0; have xM1 := ext_le1; have xM2 := ext_le2
    go_enter Try.func48, Try.ntmps48
    go_wp2
    refine bodyPost_ret (by simp [results, Try.results48, go_sem, ext_ext, ext_cell]; try rfl) rfl ?_
    exact ⟨rfl, by (repeat (first | with_reducible exact b0 _ | (with_reducible refine bext ?_ _ _) | (with_reducible refine below_drewN ?_ _) | (with_reducible refine Below.drew ?_) | (with_reducible refine bal ?_ _)))⟩
  · have r1 : maN num den = bdN (sgB num den) (absI num / gcdI num den) (absI den / gcdI num den) := by rw [maN, if_neg hz]
    have r2 : maD num den = bdD false (absI num / gcdI num den) (absI den / gcdI num den) := by rw [maD, if_neg hz]
    have r3 : maE num den = bdE (absI num / gcdI num den) (absI den / gcdI num den) := by rw [maE, if_neg hz]
    rw [r1, r2, r3]
    clear r1 r2 r3
    have z1 := absI_bd num a1 a2
    have z2 := absI_bd den a3 a4
    have A1 := fun w => ref_abs num a1 a2 w
    have A2 := fun w => ref_abs den a3 a4 w
    have A3 := fun w => ref_gcd (absI num) (absI den) (by omega) (by omega) (by omega) (by omega) w
    rw [gcdI_abs, gcdI_abs_right] at A3
    have g0 := gcdI_pos' num den hz
    have q1 := div_bd (absI num) (gcdI num den) 9223372036854775808 g0 z1.1 z1.2
    have q2 := div_bd (absI den) (gcdI num den) 9223372036854775808 g0 z2.1 z2.2
    have t1 : (absI num).tdiv (gcdI num den) = absI num / gcdI num den := Int.tdiv_eq_ediv_of_nonneg z1.1
    have t2 : (absI den).tdiv (gcdI num den) = absI den / gcdI num den := Int.tdiv_eq_ediv_of_nonneg z2.1
    generalize gcdI num den = g at *
    generalize absI num / g = m at *
    generalize absI den / g = k at *
    have A4 := fun w => ref_lowest (sgB num den) m k (by omega) (by omega) (by omega) (by omega) w
    have A5 := fun w => ref_big m (by omega) (by omega) w
    have A6 := fun w => ref_big k (by omega) (by omega) w
    obtain ⟨e1, e2, e3, e4⟩ := big_dg m (by omega) (by omega)
    obtain ⟨f1, f2, f3, f4⟩ := big_dg k (by omega) (by omega)
    rw [e1, e2] at A5
    rw [f1, f2] at A6
    rw [← e3, ← e4, ← f3, ← f4] at A4
    generalize dg0 m = m0 at *
    generalize dg1 m = m1 at *
    generalize dg0 k = k0 at *
    generalize dg1 k = k1 at *
    clear e1 e2 e3 e4 f1 f2 f3 f4
    generalize absI num = x at *
    generalize absI den = y at *
    have b1 : (g == 0) = false := by simp; omega
    have b2 : ¬ g = 0 := by omega
    have b3 : IntKind.u64.wrap m = m := by rw [IntKind.wrap_u64]; omega
    have b4 : IntKind.u64.wrap k = k := by rw [IntKind.wrap_u64]; omega
    have hz' : (den == 0) = false := by simpa using hz
    have hs : (!decide (num < 0) == decide (den < 0)) = sgB num den := by unfold sgB; cases decide (num < 0) <;> cases decide (den < 0) <;> rfl
    generalize sgB num den = s at *
    generalize bdN s m k = r1 at *
    generalize bdD false m k = r2 at *
    generalize bdE m k = r3 at *
    have dAl := dAl; have dSt := dSt; have xC := ext_cell; have xF := ext_frozen; have xS := ext_set; have xN := ext_drewN; have xD := ext_drew; have xL := ext_lt; have xE := ext_ne; have xG := ext_nr; have xX := ext_ext; have xL1 := ext_lt1; have xL2 := ext_lt2; have xL3 := ext_lt3; have xM0 := ext_le0; have xM1 := ext_le1; have xM2 := ext_le2
    go_enter Try.func48, Try.ntmps48
    go_wp2_with fail
    refine (A1 _).mono ?_
    rintro e w1 ⟨rfl, rfl⟩
    go_wp2_with fail
    refine (A2 _).mono ?_
    rintro e w1 ⟨rfl, rfl⟩
    go_wp2_with fail
    refine (A3 _).mono ?_
    rintro e w1 ⟨rfl, k9, rfl⟩
    clear A3
    go_wp2_with fail
    refine (A1 _).mono ?_
    rintro e w1 ⟨rfl, rfl⟩
    go_wp2_with fail
    refine (A5 _).mono ?_
    rintro e w1 ⟨rfl, c3, rfl⟩
    go_wp2_with fail
    refine (A2 _).mono ?_
    rintro e w1 ⟨rfl, rfl⟩
    go_wp2_with fail
    refine (A6 _).mono ?_
    rintro e w1 ⟨rfl, c4, rfl⟩
    go_wp2_with fail
    refine (A4 _).mono ?_
    rintro e w1 ⟨rfl, hb⟩
    obtain ⟨l5, d5, rfl⟩ := toExt hb
    clear hb A1 A2 A4 A5 A6
    go_wp2
    refine bodyPost_ret (by simp [results, Try.results48, go_sem, ext_cell, World.cell?_alloc_past, ltk2, ltk3, ltk4, ltk5, ltk6, ltk7, ltk8, ltk9, *]; try rfl) rfl ?_
    exact ⟨rfl, by (repeat (first | with_reducible exact b0 _ | (with_reducible refine bext ?_ _ _) | (with_reducible refine below_drewN ?_ _) | (with_reducible refine Below.drew ?_) | (with_reducible refine bal ?_ _)))⟩
end Go.Proofs.Ytilcgbloangcmaa
