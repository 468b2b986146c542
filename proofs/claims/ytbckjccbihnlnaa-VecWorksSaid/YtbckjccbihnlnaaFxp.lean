/-
  The functions of package frac that reckon with fractions: fractions, products, quotients.
-/
import Derived.Test.YtbckjccbihnlnaaFx
import Derived.Test.YtbckjccbihnlnaaFnp
namespace Go.Proofs.Ytbckjccbihnlnaa
open Go.RowKit
set_option linter.unusedVariables false
set_option linter.unusedSimpArgs false

set_option maxHeartbeats 400000 in
theorem frac_Mul (n1 d1 n2 d2 : Int) (a1 : -9223372036854775808 ≤ n1) (a2 : n1 ≤ 9223372036854775807) (a3 : -9223372036854775808 ≤ d1) (a4 : d1 ≤ 9223372036854775807)
    (c1 : -9223372036854775808 ≤ n2) (c2 : n2 ≤ 9223372036854775807) (c3 : -9223372036854775808 ≤ d2) (c4 : d2 ≤ 9223372036854775807) (w : World) :
    Calls Try.prog 13 #[.agg #[.int .i64 n1, .int .i64 d1], .agg #[.int .i64 n2, .int .i64 d2]] w fun e w' =>
      e = .returned (.tuple #[.agg #[.int .i64 (muN n1 d1 n2 d2), .int .i64 (muD n1 d1 n2 d2)], .int .i64 (muE n1 d1 n2 d2)]) ∧ Below w.heap.size w w' := by
  have A1 := fun w => frac_checkBoth n1 d1 n2 d2 a1 a2 a3 a4 c1 c2 c3 c4 w
  by_cases ho : okF n1 d1 = true ∧ okF n2 d2 = true
  · have hc : chk2 n1 d1 n2 d2 = 0 := by rw [chk2, if_pos ho.1, chkI, if_pos ho.2]
    rw [hc] at A1
    obtain ⟨o1, o2, o3, o4, o5⟩ := okF_out ho.1
    obtain ⟨p1, p2, p3, p4, p5⟩ := okF_out ho.2
    have A2 := fun w => frac_product n1 d1 n2 d2 o3 o4 o1 o2 p3 p4 p1 p2 o5 p5 w
    have r1 : muN n1 d1 n2 d2 = mkN (n1 * n2) (d1 * d2) := by rw [muN, if_pos ho]
    have r2 : muD n1 d1 n2 d2 = mkD (n1 * n2) (d1 * d2) := by rw [muD, if_pos ho]
    have r3 : muE n1 d1 n2 d2 = mkE (n1 * n2) (d1 * d2) := by rw [muE, if_pos ho]
    rw [r1, r2, r3]
    generalize mkN (n1 * n2) (d1 * d2) = x at *
    generalize mkD (n1 * n2) (d1 * d2) = y at *
    generalize mkE (n1 * n2) (d1 * d2) = z at *
    clear ho hc r1 r2 r3 o1 o2 o3 o4 o5 p1 p2 p3 p4 p5
    have dAl := dAl; have dSt := dSt; have xC := ext_cell; have xF := ext_frozen; have xS := ext_set; have xN := ext_drewN; have xD := ext_drew; have xL := ext_lt; have xE := ext_ne; have xG := ext_nr; have xX := ext_ext; have xL1 := ext_lt1; have xL2 := ext_lt2; have xL3 := ext_lt3; have xM0 := ext_le0; have xM1 := ext_le1; have xM2 := ext_le2
    go_enter Try.func13, Try.ntmps13
    go_wp2_with fail
    refine (A1 _).mono ?_
    rintro e w1c ⟨rfl, hb1c⟩
    obtain ⟨l1c, d1c, rfl⟩ := toExt hb1c
    clear hb1c
    go_wp2_with fail
    refine (A2 _).mono ?_
    rintro e w2c ⟨rfl, hb2c⟩
    obtain ⟨l2c, d2c, rfl⟩ := toExt hb2c
    clear hb2c
    clear A1 A2
    go_wp2
    refine bodyPost_ret (by simp [results, Try.results13, go_sem, ext_ext, ext_cell]; try rfl) rfl ?_
    exact ⟨rfl, by (repeat (first | with_reducible exact b0 _ | (with_reducible refine bext ?_ _ _) | (with_reducible refine below_drewN ?_ _) | (with_reducible refine Below.drew ?_) | (with_reducible refine bal ?_ _)))⟩
  · have hc : chk2 n1 d1 n2 d2 = 8 := by
      rw [chk2]
      by_cases h1 : okF n1 d1 = true
      · rw [if_pos h1, chkI, if_neg (fun h2 => ho ⟨h1, h2⟩)]
      · rw [if_neg h1]
    rw [hc] at A1
    have r1 : muN n1 d1 n2 d2 = 0 := by rw [muN, if_neg ho]
    have r2 : muD n1 d1 n2 d2 = 0 := by rw [muD, if_neg ho]
    have r3 : muE n1 d1 n2 d2 = 8 := by rw [muE, if_neg ho]
    rw [r1, r2, r3]
    clear ho hc r1 r2 r3
    have dAl := dAl; have dSt := dSt; have xC := ext_cell; have xF := ext_frozen; have xS := ext_set; have xN := ext_drewN; have xD := ext_drew; have xL := ext_lt; have xE := ext_ne; have xG := ext_nr; have xX := ext_ext; have xL1 := ext_lt1; have xL2 := ext_lt2; have xL3 := ext_lt3; have xM0 := ext_le0; have xM1 := ext_le1; have xM2 := ext_le2
    go_enter Try.func13, Try.ntmps13
    go_wp2_with fail
    refine (A1 _).mono ?_
    rintro e w3c ⟨rfl, hb3c⟩
    obtain ⟨l3c, d3c, rfl⟩ := toExt hb3c
    clear hb3c
    clear A1
    go_wp2
    refine bodyPost_ret (by simp [results, Try.results13, go_sem, ext_ext, ext_cell]; try rfl) rfl ?_
    exact ⟨rfl, by (repeat (first | with_reducible exact b0 _ | (with_reducible refine bext ?_ _ _) | (with_reducible refine below_drewN ?_ _) | (with_reducible refine Below.drew ?_) | (with_reducible refine bal ?_ _)))⟩

set_option maxHeartbeats 400000 in
theorem frac_Div (n1 d1 n2 d2 : Int) (a1 : -9223372036854775808 ≤ n1) (a2 : n1 ≤ 9223372036854775807) (a3 : -9223372036854775808 ≤ d1) (a4 : d1 ≤ 9223372036854775807)
    (c1 : -9223372036854775808 ≤ n2) (c2 : n2 ≤ 9223372036854775807) (c3 : -9223372036854775808 ≤ d2) (c4 : d2 ≤ 9223372036854775807) (w : World) :
    Calls Try.prog 15 #[.agg #[.int .i64 n1, .int .i64 d1], .agg #[.int .i64 n2, .int .i64 d2]] w fun e w' =>
      e = .returned (.tuple #[.agg #[.int .i64 (dvN n1 d1 n2 d2), .int .i64 (dvD n1 d1 n2 d2)], .int .i64 (dvE n1 d1 n2 d2)]) ∧ Below w.heap.size w w' := by
  have A1 := fun w => frac_checkBoth n1 d1 n2 d2 a1 a2 a3 a4 c1 c2 c3 c4 w
  by_cases ho : okF n1 d1 = true ∧ okF n2 d2 = true
  · have hc : chk2 n1 d1 n2 d2 = 0 := by rw [chk2, if_pos ho.1, chkI, if_pos ho.2]
    rw [hc] at A1
    obtain ⟨o1, o2, o3, o4, o5⟩ := okF_out ho.1
    obtain ⟨p1, p2, p3, p4, p5⟩ := okF_out ho.2
    by_cases hz : n2 = 0
    · have r1 : dvN n1 d1 n2 d2 = 0 := by rw [dvN, if_pos ho, if_pos hz]
      have r2 : dvD n1 d1 n2 d2 = 0 := by rw [dvD, if_pos ho, if_pos hz]
      have r3 : dvE n1 d1 n2 d2 = 18 := by rw [dvE, if_pos ho, if_pos hz]
      rw [r1, r2, r3]
      subst hz
      clear ho hc r1 r2 r3 o1 o2 o3 o4 o5 p1 p2 p3 p4 p5
      have dAl := dAl; have dSt := dSt; have xC := ext_cell; have xF := ext_frozen; have xS := ext_set; have xN := ext_drewN; have xD := ext_drew; have xL := ext_lt; have xE := ext_ne; have xG := ext_nr; have xX := ext_ext; have xL1 := ext_lt1; have xL2 := ext_lt2; have xL3 := ext_lt3; have xM0 := ext_le0; have xM1 := ext_le1; have xM2 := ext_le2
      go_enter Try.func15, Try.ntmps15
      go_wp2_with fail
      refine (A1 _).mono ?_
      rintro e w4c ⟨rfl, hb4c⟩
      obtain ⟨l4c, d4c, rfl⟩ := toExt hb4c
      clear hb4c
      clear A1
      go_wp2
      refine bodyPost_ret (by simp [results, Try.results15, go_sem, ext_ext, ext_cell]; try rfl) rfl ?_
      exact ⟨rfl, by (repeat (first | with_reducible exact b0 _ | (with_reducible refine bext ?_ _ _) | (with_reducible refine below_drewN ?_ _) | (with_reducible refine Below.drew ?_) | (with_reducible refine bal ?_ _)))⟩
    · have hf := flip_ok n2 d2 ho.2 hz
      obtain ⟨f1, f2, f3, f4, f5⟩ := okF_out hf
      have A2 := fun w => frac_flip n2 d2 (by omega) c2 p1 c4 w
      have A3 := fun w => frac_product n1 d1 (flN n2 d2) (absI n2) o3 o4 o1 o2 f3 f4 f1 f2 o5 f5 w
      have r1 : dvN n1 d1 n2 d2 = mkN (n1 * flN n2 d2) (d1 * absI n2) := by rw [dvN, if_pos ho, if_neg hz]
      have r2 : dvD n1 d1 n2 d2 = mkD (n1 * flN n2 d2) (d1 * absI n2) := by rw [dvD, if_pos ho, if_neg hz]
      have r3 : dvE n1 d1 n2 d2 = mkE (n1 * flN n2 d2) (d1 * absI n2) := by rw [dvE, if_pos ho, if_neg hz]
      rw [r1, r2, r3]
      generalize mkN (n1 * flN n2 d2) (d1 * absI n2) = x at *
      generalize mkD (n1 * flN n2 d2) (d1 * absI n2) = y at *
      generalize mkE (n1 * flN n2 d2) (d1 * absI n2) = z at *
      generalize flN n2 d2 = u at *
      generalize absI n2 = v at *
      have hz' : (n2 == 0) = false := by simpa using hz
      clear ho hc r1 r2 r3 o1 o2 o3 o4 o5 p1 p2 p3 p4 p5 hf f1 f2 f3 f4 f5 hz
      have dAl := dAl; have dSt := dSt; have xC := ext_cell; have xF := ext_frozen; have xS := ext_set; have xN := ext_drewN; have xD := ext_drew; have xL := ext_lt; have xE := ext_ne; have xG := ext_nr; have xX := ext_ext; have xL1 := ext_lt1; have xL2 := ext_lt2; have xL3 := ext_lt3; have xM0 := ext_le0; have xM1 := ext_le1; have xM2 := ext_le2
      go_enter Try.func15, Try.ntmps15
      go_wp2_with fail
      refine (A1 _).mono ?_
      rintro e w5c ⟨rfl, hb5c⟩
      obtain ⟨l5c, d5c, rfl⟩ := toExt hb5c
      clear hb5c
      clear A1
      go_wp2_with fail
      go_region_held3 (fun w' => w'.cell? ⟨w.heap.size, 0, none⟩ = some (.int .i64 n1) ∧ w'.cell? ⟨w.heap.size, 1, none⟩ = some (.int .i64 d1) ∧ w'.cell? ⟨w.heap.size + 1, 0, none⟩ = some (.int .i64 n2) ∧ w'.cell? ⟨w.heap.size + 1, 1, none⟩ = some (.int .i64 d2)) (simp (maxDischargeDepth := 8) [go_sem, World.cell?_alloc_past, ltk2, ltk3, ltk4, ltk5, ltk6, ltk7, ltk8, ltk9, *])
        ((first
          | (go_at_call 67; refine (A2 _).mono ?_; rintro e w' ⟨rfl, hb⟩; obtain ⟨l, d, rfl⟩ := toExt hb; clear hb)
          | (go_at_call 64; refine (A3 _).mono ?_; rintro e w' ⟨rfl, hb⟩; obtain ⟨l, d, rfl⟩ := toExt hb; clear hb)))
      go_wp2
      refine bodyPost_ret (by simp [results, Try.results15, go_sem, ext_ext, ext_cell]; try rfl) rfl ?_
      exact ⟨rfl, by (repeat (first | with_reducible exact b0 _ | (with_reducible refine bext ?_ _ _) | (with_reducible refine below_drewN ?_ _) | (with_reducible refine Below.drew ?_) | (with_reducible refine bal ?_ _)))⟩
  · have hc : chk2 n1 d1 n2 d2 = 8 := by
      rw [chk2]
      by_cases h1 : okF n1 d1 = true
      · rw [if_pos h1, chkI, if_neg (fun h2 => ho ⟨h1, h2⟩)]
      · rw [if_neg h1]
    rw [hc] at A1
    have r1 : dvN n1 d1 n2 d2 = 0 := by rw [dvN, if_neg ho]
    have r2 : dvD n1 d1 n2 d2 = 0 := by rw [dvD, if_neg ho]
    have r3 : dvE n1 d1 n2 d2 = 8 := by rw [dvE, if_neg ho]
    rw [r1, r2, r3]
    clear ho hc r1 r2 r3
    have dAl := dAl; have dSt := dSt; have xC := ext_cell; have xF := ext_frozen; have xS := ext_set; have xN := ext_drewN; have xD := ext_drew; have xL := ext_lt; have xE := ext_ne; have xG := ext_nr; have xX := ext_ext; have xL1 := ext_lt1; have xL2 := ext_lt2; have xL3 := ext_lt3; have xM0 := ext_le0; have xM1 := ext_le1; have xM2 := ext_le2
    go_enter Try.func15, Try.ntmps15
    go_wp2_with fail
    refine (A1 _).mono ?_
    rintro e w6c ⟨rfl, hb6c⟩
    obtain ⟨l6c, d6c, rfl⟩ := toExt hb6c
    clear hb6c
    clear A1
    go_wp2
    refine bodyPost_ret (by simp [results, Try.results15, go_sem, ext_ext, ext_cell]; try rfl) rfl ?_
    exact ⟨rfl, by (repeat (first | with_reducible exact b0 _ | (with_reducible refine bext ?_ _ _) | (with_reducible refine below_drewN ?_ _) | (with_reducible refine Below.drew ?_) | (with_reducible refine bal ?_ _)))⟩

theorem hl_lo (m : Int) (h0 : 0 ≤ m) (h1 : m < 18446744073709551616) : hiI m = 0 ∧ loI m = m := by unfold hiI loI; omega

set_option maxHeartbeats 400000 in
set_option maxRecDepth 100000 in
theorem frac_Make (num den : Int) (a1 : -9223372036854775808 ≤ num) (a2 : num ≤ 9223372036854775807) (a3 : -9223372036854775808 ≤ den) (a4 : den ≤ 9223372036854775807) (w : World) :
    Calls Try.prog 11 #[.int .i64 num, .int .i64 den] w fun e w' =>
      e = .returned (.tuple #[.agg #[.int .i64 (maN num den), .int .i64 (maD num den)], .int .i64 (maE num den)]) ∧ Below w.heap.size w w' := by
  by_cases hz : den = 0
  · have r1 : maN num den = 0 := by rw [maN, if_pos hz]
    have r2 : maD num den = 0 := by rw [maD, if_pos hz]
    have r3 : maE num den = 18 := by rw [maE, if_pos hz]
    rw [r1, r2, r3]
    subst hz
    clear r1 r2 r3
    have dAl := dAl; have dSt := dSt; have xC := ext_cell; have xF := ext_frozen; have xS := ext_set; have xN := ext_drewN; have xD := ext_drew; have xL := ext_lt; have xE := ext_ne; have xG := ext_nr; have xX := ext_ext; have xL1 := ext_lt1; have xL2 := ext_lt2; have xL3 := ext_lt3; have xM0 := ext_le0; have xM1 := ext_le1; have xM2 := ext_le2
    go_enter Try.func11, Try.ntmps11
    go_wp2
    refine bodyPost_ret (by simp [results, Try.results11, go_sem, ext_ext, ext_cell]; try rfl) rfl ?_
    exact ⟨rfl, by (repeat (first | with_reducible exact b0 _ | (with_reducible refine bext ?_ _ _) | (with_reducible refine below_drewN ?_ _) | (with_reducible refine Below.drew ?_) | (with_reducible refine bal ?_ _)))⟩
  · have r1 : maN num den = bdN (sgB num den) (absI num / gcdI num den) (absI den / gcdI num den) := by rw [maN, if_neg hz]
    have r2 : maD num den = bdD false (absI num / gcdI num den) (absI den / gcdI num den) := by rw [maD, if_neg hz]
    have r3 : maE num den = bdE (absI num / gcdI num den) (absI den / gcdI num den) := by rw [maE, if_neg hz]
    rw [r1, r2, r3]
    clear r1 r2 r3
    have z1 := absI_bd num a1 a2
    have z2 := absI_bd den a3 a4
    have A1 := fun w => frac_size num a1 a2 w
    have A2 := fun w => frac_size den a3 a4 w
    have A3 := fun w => frac_gcd (absI num) (absI den) (by omega) (by omega) (by omega) (by omega) w
    rw [gcdI_abs, gcdI_abs_right] at A3
    have g0 := gcdI_pos' num den hz
    have q1 := div_bd (absI num) (gcdI num den) 9223372036854775808 g0 z1.1 z1.2
    have q2 := div_bd (absI den) (gcdI num den) 9223372036854775808 g0 z2.1 z2.2
    have t1 : (absI num).tdiv (gcdI num den) = absI num / gcdI num den := Int.tdiv_eq_ediv_of_nonneg z1.1
    have t2 : (absI den).tdiv (gcdI num den) = absI den / gcdI num den := Int.tdiv_eq_ediv_of_nonneg z2.1
    generalize gcdI num den = g at *
    generalize absI num / g = m at *
    generalize absI den / g = k at *
    have A4 := fun w => frac_build (sgB num den) false m k (by omega) (by omega) (by omega) (by omega) w
    rw [(hl_lo m (by omega) (by omega)).1, (hl_lo m (by omega) (by omega)).2, (hl_lo k (by omega) (by omega)).1, (hl_lo k (by omega) (by omega)).2] at A4
    generalize absI num = x at *
    generalize absI den = y at *
    have b1 : (g == 0) = false := by simp; omega
    have b2 : ¬ g = 0 := by omega
    have b3 : IntKind.u64.wrap m = m := by rw [IntKind.wrap_u64]; omega
    have b4 : IntKind.u64.wrap k = k := by rw [IntKind.wrap_u64]; omega
    have hz' : (den == 0) = false := by simpa using hz
    have hs : (!decide (num < 0) == decide (den < 0)) = sgB num den := by unfold sgB; cases decide (num < 0) <;> cases decide (den < 0) <;> rfl
    generalize sgB num den = s at *
    generalize bdN s m k = r1 at *
    generalize bdD false m k = r2 at *
    generalize bdE m k = r3 at *
    have dAl := dAl; have dSt := dSt; have xC := ext_cell; have xF := ext_frozen; have xS := ext_set; have xN := ext_drewN; have xD := ext_drew; have xL := ext_lt; have xE := ext_ne; have xG := ext_nr; have xX := ext_ext; have xL1 := ext_lt1; have xL2 := ext_lt2; have xL3 := ext_lt3; have xM0 := ext_le0; have xM1 := ext_le1; have xM2 := ext_le2
    go_enter Try.func11, Try.ntmps11
    go_wp2_with fail
    refine (A1 _).mono ?_
    rintro e w1 ⟨rfl, rfl⟩
    go_wp2_with fail
    refine (A2 _).mono ?_
    rintro e w1 ⟨rfl, rfl⟩
    go_wp2_with fail
    refine (A3 _).mono ?_
    rintro e w1 ⟨rfl, k9, rfl⟩
    clear A1 A2 A3
    go_wp2_with fail
    go_region_with
        ((go_at_call 58; refine (A4 _).mono ?_; rintro e w' ⟨rfl, hb⟩; obtain ⟨l, d, rfl⟩ := toExt hb; clear hb))
    go_wp2
    refine bodyPost_ret (by simp [results, Try.results11, go_sem, ext_ext, ext_cell]; try rfl) rfl ?_
    exact ⟨rfl, by (repeat (first | with_reducible exact b0 _ | (with_reducible refine bext ?_ _ _) | (with_reducible refine below_drewN ?_ _) | (with_reducible refine Below.drew ?_) | (with_reducible refine bal ?_ _)))⟩
end Go.Proofs.Ytbckjccbihnlnaa
