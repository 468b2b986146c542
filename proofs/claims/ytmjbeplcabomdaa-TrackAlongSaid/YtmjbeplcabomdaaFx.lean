/-
  The functions of package frac that reckon with fractions: sums, products, orders, floors.
-/
import Derived.Test.YtmjbeplcabomdaaQg
import Derived.Test.YtmjbeplcabomdaaFn
namespace Go.Proofs.Ytmjbeplcabomdaa
open Go.RowKit
set_option linter.unusedVariables false
set_option linter.unusedSimpArgs false

theorem frac_sum (n1 d1 n2 d2 : Int) (a1 : -9223372036854775808 ≤ n1) (a2 : n1 ≤ 9223372036854775807) (a3 : 1 ≤ d1) (a4 : d1 ≤ 9223372036854775807)
    (c1 : -9223372036854775808 ≤ n2) (c2 : n2 ≤ 9223372036854775807) (c3 : 1 ≤ d2) (c4 : d2 ≤ 9223372036854775807) (k1 : gcdI n1 d1 = 1) (k2 : gcdI n2 d2 = 1) (w : World) :
    Calls Try.prog 65 #[.agg #[.int .i64 n1, .int .i64 d1], .agg #[.int .i64 n2, .int .i64 d2]] w fun e w' =>
      e = .returned (.tuple #[.agg #[.int .i64 (mkN (n1 * d2 + n2 * d1) (d1 * d2)), .int .i64 (mkD (n1 * d2 + n2 * d1) (d1 * d2))], .int .i64 (mkE (n1 * d2 + n2 * d1) (d1 * d2))]) ∧ Below w.heap.size w w' := by
  have hs := sv_pl2 (sgB n1 (d2 / gcdI d1 d2)) (sgB n2 (d1 / gcdI d1 d2)) (absI n1 * absI (d2 / gcdI d1 d2)) (absI n2 * absI (d1 / gcdI d1 d2))
  have hm := plM_nn (sgB n1 (d2 / gcdI d1 d2)) (sgB n2 (d1 / gcdI d1 d2)) (absI n1 * absI (d2 / gcdI d1 d2)) (absI n2 * absI (d1 / gcdI d1 d2)) (Int.mul_nonneg (absI_nn _) (absI_nn _)) (Int.mul_nonneg (absI_nn _) (absI_nn _))
  rw [sg_mul, sg_mul] at hs
  generalize em : plM (sgB n1 (d2 / gcdI d1 d2)) (absI n1 * absI (d2 / gcdI d1 d2)) (sgB n2 (d1 / gcdI d1 d2)) (absI n2 * absI (d1 / gcdI d1 d2)) = m at *
  generalize es : plN (sgB n1 (d2 / gcdI d1 d2)) (absI n1 * absI (d2 / gcdI d1 d2)) (sgB n2 (d1 / gcdI d1 d2)) (absI n2 * absI (d1 / gcdI d1 d2)) = s at *
  obtain ⟨g0, gl1, gl2, gd1, gd2, h0, hle, hdm, hd2, hd1, r1, r2, r3⟩ := sum_mk n1 d1 n2 d2 _ _ _ _ _ _ _ a3 c3 k1 k2 rfl rfl rfl rfl hm hs rfl
  have l1 := div_bd d1 (gcdI d1 d2) 9223372036854775807 g0 (by omega) a4
  have l2 := div_bd d2 (gcdI d1 d2) 9223372036854775807 g0 (by omega) c4
  have e3 := tdiv_dvd d2 _ hd2
  have l3 := div_bd d2 _ 9223372036854775807 h0 (by omega) c4
  refine (sum_core n1 d1 n2 d2 _ _ _ _ _ _ _ a1 a2 a3 a4 c1 c2 c3 c4 g0 (by omega) h0 hle l1.1 l1.2 l2.1 l2.2 l3.1 l3.2 rfl (tdiv_dvd _ _ gd1) (tdiv_dvd _ _ gd2) rfl rfl es em rfl hdm e3 w).mono ?_
  rintro e w' ⟨rfl, hb⟩
  refine ⟨?_, hb⟩
  rw [absI_of _ l1.1, absI_of _ l3.1, sgB_of _ _ l1.1 l3.1]
  exact ret_fe r1 r2 r3

set_option maxHeartbeats 400000 in
theorem frac_Add (n1 d1 n2 d2 : Int) (a1 : -9223372036854775808 ≤ n1) (a2 : n1 ≤ 9223372036854775807) (a3 : -9223372036854775808 ≤ d1) (a4 : d1 ≤ 9223372036854775807)
    (c1 : -9223372036854775808 ≤ n2) (c2 : n2 ≤ 9223372036854775807) (c3 : -9223372036854775808 ≤ d2) (c4 : d2 ≤ 9223372036854775807) (w : World) :
    Calls Try.prog 43 #[.agg #[.int .i64 n1, .int .i64 d1], .agg #[.int .i64 n2, .int .i64 d2]] w fun e w' =>
      e = .returned (.tuple #[.agg #[.int .i64 (adN n1 d1 n2 d2), .int .i64 (adD n1 d1 n2 d2)], .int .i64 (adE n1 d1 n2 d2)]) ∧ Below w.heap.size w w' := by
  have A1 := fun w => frac_checkBoth n1 d1 n2 d2 a1 a2 a3 a4 c1 c2 c3 c4 w
  by_cases ho : okF n1 d1 = true ∧ okF n2 d2 = true
  · have hc : chk2 n1 d1 n2 d2 = 0 := by rw [chk2, if_pos ho.1, chkI, if_pos ho.2]
    rw [hc] at A1
    obtain ⟨o1, o2, o3, o4, o5⟩ := okF_out ho.1
    obtain ⟨p1, p2, p3, p4, p5⟩ := okF_out ho.2
    have A2 := fun w => frac_sum n1 d1 n2 d2 a1 a2 o1 a4 c1 c2 p1 c4 o5 p5 w
    have r1 : adN n1 d1 n2 d2 = mkN (n1 * d2 + n2 * d1) (d1 * d2) := by rw [adN, if_pos ho]
    have r2 : adD n1 d1 n2 d2 = mkD (n1 * d2 + n2 * d1) (d1 * d2) := by rw [adD, if_pos ho]
    have r3 : adE n1 d1 n2 d2 = mkE (n1 * d2 + n2 * d1) (d1 * d2) := by rw [adE, if_pos ho]
    rw [r1, r2, r3]
    generalize mkN (n1 * d2 + n2 * d1) (d1 * d2) = x at *
    generalize mkD (n1 * d2 + n2 * d1) (d1 * d2) = y at *
    generalize mkE (n1 * d2 + n2 * d1) (d1 * d2) = z at *
    clear ho hc r1 r2 r3 o1 o2 o3 o4 o5 p1 p2 p3 p4 p5
    have dAl := dAl; have dSt := dSt; have xC := ext_cell; have xF := ext_frozen; have xS := ext_set; have xN := ext_drewN; have xD := ext_drew; have xL := ext_lt; have xE := ext_ne; have xG := ext_nr; have xX := ext_ext; have xL1 := ext_lt1; have xL2 := ext_lt2; have xL3 := ext_lt3; have xM0 := ext_le0; have xM1 := ext_le1; have xM2 := ext_le2
    go_enter Try.func43, Try.ntmps43
    go_wp2_with fail
    refine (A1 _).mono ?_
    rintro e w1c ⟨rfl, hb1c⟩
    obtain ⟨l1c, d1c, rfl⟩ := toExt hb1c
    clear hb1c
    go_wp2_with fail
    refine (A2 _).mono ?_
    rintro e w2c ⟨rfl, hb2c⟩
    obtain ⟨l2c, d2c, rfl⟩ := toExt hb2c
    clear hb2c
    clear A1 A2
    go_wp2
    refine bodyPost_ret (by simp [results, Try.results43, go_sem, ext_ext, ext_cell]; try rfl) rfl ?_
    exact ⟨rfl, by (repeat (first | with_reducible exact b0 _ | (with_reducible refine bext ?_ _ _) | (with_reducible refine below_drewN ?_ _) | (with_reducible refine Below.drew ?_) | (with_reducible refine bal ?_ _)))⟩
  · have hc : chk2 n1 d1 n2 d2 = 8 := by
      rw [chk2]
      by_cases h1 : okF n1 d1 = true
      · rw [if_pos h1, chkI, if_neg (fun h2 => ho ⟨h1, h2⟩)]
      · rw [if_neg h1]
    rw [hc] at A1
    have r1 : adN n1 d1 n2 d2 = 0 := by rw [adN, if_neg ho]
    have r2 : adD n1 d1 n2 d2 = 0 := by rw [adD, if_neg ho]
    have r3 : adE n1 d1 n2 d2 = 8 := by rw [adE, if_neg ho]
    rw [r1, r2, r3]
    clear ho hc r1 r2 r3
    have dAl := dAl; have dSt := dSt; have xC := ext_cell; have xF := ext_frozen; have xS := ext_set; have xN := ext_drewN; have xD := ext_drew; have xL := ext_lt; have xE := ext_ne; have xG := ext_nr; have xX := ext_ext; have xL1 := ext_lt1; have xL2 := ext_lt2; have xL3 := ext_lt3; have xM0 := ext_le0; have xM1 := ext_le1; have xM2 := ext_le2
    go_enter Try.func43, Try.ntmps43
    go_wp2_with fail
    refine (A1 _).mono ?_
    rintro e w3c ⟨rfl, hb3c⟩
    obtain ⟨l3c, d3c, rfl⟩ := toExt hb3c
    clear hb3c
    clear A1
    go_wp2
    refine bodyPost_ret (by simp [results, Try.results43, go_sem, ext_ext, ext_cell]; try rfl) rfl ?_
    exact ⟨rfl, by (repeat (first | with_reducible exact b0 _ | (with_reducible refine bext ?_ _ _) | (with_reducible refine below_drewN ?_ _) | (with_reducible refine Below.drew ?_) | (with_reducible refine bal ?_ _)))⟩

end Go.Proofs.Ytmjbeplcabomdaa
