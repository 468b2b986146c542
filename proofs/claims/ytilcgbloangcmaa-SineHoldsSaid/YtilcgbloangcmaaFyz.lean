/-
  Sums and differences of the reference.
-/
import Derived.Test.YtilcgbloangcmaaFy1
import Derived.Test.YtilcgbloangcmaaFy2
import Derived.Test.YtilcgbloangcmaaFy3
import Derived.Test.YtilcgbloangcmaaFya
namespace Go.Proofs.Ytilcgbloangcmaa
open Go.RowKit
set_option linter.unusedVariables false
set_option linter.unusedSimpArgs false

theorem same_sg {n1 n2 : Int} (h : ¬ (decide (n1 < 0) == decide (n2 < 0)) = true) : (decide (n1 < 0) == decide (n2 < 0)) = false := by simpa using h
set_option maxHeartbeats 800000 in
theorem ref_add_ok (n1 d1 n2 d2 : Int) (o1 : okF n1 d1 = true) (o2 : okF n2 d2 = true) (w : World) :
    Calls Try.prog 34 #[.agg #[.int .i64 n1, .int .i64 d1], .agg #[.int .i64 n2, .int .i64 d2]] w fun e w' =>
      e = .returned (.tuple #[.agg #[.int .i64 (mkN (n1 * d2 + n2 * d1) (d1 * d2)), .int .i64 (mkD (n1 * d2 + n2 * d1) (d1 * d2))], .int .i64 (mkE (n1 * d2 + n2 * d1) (d1 * d2))]) ∧ Below w.heap.size w w' := by
  have hc : chk2 n1 d1 n2 d2 = 0 := by rw [chk2, if_pos o1, chkI, if_pos o2]
  obtain ⟨a3, a4, a1, a2, a5⟩ := okF_out o1
  obtain ⟨c3, c4, c1, c2, c5⟩ := okF_out o2
  have g0 := gcdI_pos d1 d2 (by omega)
  have q1 := div_bd d1 _ 1000000000000000000 g0 (by omega) a4
  have q2 := div_bd d2 _ 1000000000000000000 g0 (by omega) c4
  have gle := gcdI_le d1 d2 (by omega)
  have x0 := Int.mul_nonneg (absI_nn n1) q2.1
  have y0 := Int.mul_nonneg (absI_nn n2) q1.1
  by_cases hs : (decide (n1 < 0) == decide (n2 < 0)) = true
  · have hm : 0 ≤ absI n1 * (d2 / gcdI d1 d2) + absI n2 * (d1 / gcdI d1 d2) := by omega
    have sv1 := sv_same n1 n2 (d2 / gcdI d1 d2) (d1 / gcdI d1 d2) hs
    obtain ⟨_, _, _, gd1, gd2, h0, hle, hdm, hd2, hd1, r1, r2, r3⟩ := sum_mk n1 d1 n2 d2 _ _ _ _ _ _ _ a3 c3 a5 c5 rfl rfl rfl rfl hm sv1 rfl
    have t := div_bd d2 _ 1000000000000000000 h0 (by omega) c4
    refine (add_same n1 d1 n2 d2 _ _ _ _ _ _ a1 a2 a3 a4 c1 c2 c3 c4 g0 (by omega) rfl rfl rfl q1.1 q1.2 q2.1 q2.2 rfl rfl hc hs rfl h0 (by omega) _ _ _ rfl rfl rfl t.1 t.2 ?_ w).mono ?_
    · intro hq
      exact zero_sum n1 d1 n2 d2 _ _ _ _ _ _ _ a3 c3 a5 c5 rfl rfl rfl rfl sv1 (by
        have := Int.ediv_mul_cancel hdm
        rw [hq] at this; omega) rfl
    · rintro e w' ⟨rfl, hb⟩
      exact ⟨ret_fe r1 r2 r3, hb⟩
  · have hs' := same_sg hs
    by_cases hl : absI n1 * (d2 / gcdI d1 d2) < absI n2 * (d1 / gcdI d1 d2)
    · have hs2 : (decide (n2 < 0) == decide (n1 < 0)) = false := by cases h1 : decide (n1 < 0) <;> cases h2 : decide (n2 < 0) <;> simp_all
      have hm : 0 ≤ absI n2 * (d1 / gcdI d1 d2) - absI n1 * (d2 / gcdI d1 d2) := by omega
      have sv1 := sv_more n2 n1 (d1 / gcdI d1 d2) (d2 / gcdI d1 d2) hs2
      obtain ⟨_, _, _, gd1, gd2, h0, hle, hdm, hd2, hd1, r1, r2, r3⟩ := sum_mk n2 d2 n1 d1 _ _ _ _ _ _ _ c3 a3 c5 a5 (gcdI_comm d1 d2) rfl rfl rfl hm sv1 rfl
      have t := div_bd d1 _ 1000000000000000000 h0 (by omega) a4
      refine (add_less n1 d1 n2 d2 _ _ _ _ _ _ a1 a2 a3 a4 c1 c2 c3 c4 g0 (by omega) rfl rfl rfl q1.1 q1.2 q2.1 q2.2 rfl rfl hc hs' hl rfl h0 (by omega) _ _ _ rfl rfl rfl t.1 t.2 ?_ w).mono ?_
      · intro hq
        exact zero_sum n2 d2 n1 d1 _ _ _ _ _ _ _ c3 a3 c5 a5 (gcdI_comm d1 d2) rfl rfl rfl sv1 (by
          have := Int.ediv_mul_cancel hdm
          rw [hq] at this; omega) rfl
      · rintro e w' ⟨rfl, hb⟩
        refine ⟨?_, hb⟩
        rw [Int.add_comm (n1 * d2), Int.mul_comm d1 d2]
        exact ret_fe r1 r2 r3
    · have hm : 0 ≤ absI n1 * (d2 / gcdI d1 d2) - absI n2 * (d1 / gcdI d1 d2) := by omega
      have sv1 := sv_more n1 n2 (d2 / gcdI d1 d2) (d1 / gcdI d1 d2) hs'
      obtain ⟨_, _, _, gd1, gd2, h0, hle, hdm, hd2, hd1, r1, r2, r3⟩ := sum_mk n1 d1 n2 d2 _ _ _ _ _ _ _ a3 c3 a5 c5 rfl rfl rfl rfl hm sv1 rfl
      have t := div_bd d2 _ 1000000000000000000 h0 (by omega) c4
      refine (add_more n1 d1 n2 d2 _ _ _ _ _ _ a1 a2 a3 a4 c1 c2 c3 c4 g0 (by omega) rfl rfl rfl q1.1 q1.2 q2.1 q2.2 rfl rfl hc hs' (by omega) rfl h0 (by omega) _ _ _ rfl rfl rfl t.1 t.2 ?_ w).mono ?_
      · intro hq
        exact zero_sum n1 d1 n2 d2 _ _ _ _ _ _ _ a3 c3 a5 c5 rfl rfl rfl rfl sv1 (by
          have := Int.ediv_mul_cancel hdm
          rw [hq] at this; omega) rfl
      · rintro e w' ⟨rfl, hb⟩
        exact ⟨ret_fe r1 r2 r3, hb⟩

theorem chk2_bad {n1 d1 n2 d2 : Int} (ho : ¬ (okF n1 d1 = true ∧ okF n2 d2 = true)) : chk2 n1 d1 n2 d2 = 8 := by
  rw [chk2]
  by_cases h1 : okF n1 d1 = true
  · rw [if_pos h1, chkI, if_neg (fun h2 => ho ⟨h1, h2⟩)]
  · rw [if_neg h1]

set_option maxRecDepth 100000 in
set_option maxHeartbeats 1600000 in
theorem ref_Add (n1 d1 n2 d2 : Int) (a1 : -9223372036854775808 ≤ n1) (a2 : n1 ≤ 9223372036854775807) (a3 : -9223372036854775808 ≤ d1) (a4 : d1 ≤ 9223372036854775807)
    (c1 : -9223372036854775808 ≤ n2) (c2 : n2 ≤ 9223372036854775807) (c3 : -9223372036854775808 ≤ d2) (c4 : d2 ≤ 9223372036854775807) (w : World) :
    Calls Try.prog 34 #[.agg #[.int .i64 n1, .int .i64 d1], .agg #[.int .i64 n2, .int .i64 d2]] w fun e w' =>
      e = .returned (.tuple #[.agg #[.int .i64 (adN n1 d1 n2 d2), .int .i64 (adD n1 d1 n2 d2)], .int .i64 (adE n1 d1 n2 d2)]) ∧ Below w.heap.size w w' := by
  by_cases ho : okF n1 d1 = true ∧ okF n2 d2 = true
  · rw [adN, adD, adE, if_pos ho, if_pos ho, if_pos ho]
    exact ref_add_ok n1 d1 n2 d2 ho.1 ho.2 w
  · rw [adN, adD, adE, if_neg ho, if_neg ho, if_neg ho]
    have A1 := fun w => ref_Both n1 d1 n2 d2 a1 a2 a3 a4 c1 c2 c3 c4 w
    rw [chk2_bad ho] at A1
    clear ho
    have dAl := dAl; have dSt := dSt; have xC := ext_cell; have xF := ext_frozen; have xS := ext_set; have xN := ext_drewN; have xD := ext_drew; have xL := ext_lt; have xE := ext_ne; have xG := ext_nr; have xX := ext_ext; have xL1 := ext_lt1; have xL2 := ext_lt2; have xL3 := ext_lt3; have xM0 := ext_le0; have xM1 := ext_le1; have xM2 := ext_le2
    go_enter Try.func34, Try.ntmps34
    go_wp2_with fail
    refine (A1 _).mono ?_
    rintro e w1c ⟨rfl, hb1c⟩
    obtain ⟨l1c, d1c, rfl⟩ := toExt hb1c
    clear hb1c
    go_wp2_with fail
    refine (A1 _).mono ?_
    rintro e w2c ⟨rfl, hb2c⟩
    obtain ⟨l2c, d2c, rfl⟩ := toExt hb2c
    clear hb2c
    clear A1
    go_wp2
    refine bodyPost_ret (by simp [results, Try.results34, go_sem, ext_cell, World.cell?_alloc_past, ltk2, ltk3, ltk4, ltk5, ltk6, ltk7, ltk8, ltk9, *]; try rfl) rfl ?_
    exact ⟨rfl, by (repeat (first | with_reducible exact b0 _ | (with_reducible refine bext ?_ _ _) | (with_reducible refine below_drewN ?_ _) | (with_reducible refine Below.drew ?_) | (with_reducible refine bal ?_ _)))⟩

theorem ad_bad {n1 d1 n2 d2 : Int} (ho : ¬ (okF n1 d1 = true ∧ okF n2 d2 = true)) : adN n1 d1 (-n2) d2 = 0 ∧ adD n1 d1 (-n2) d2 = 0 ∧ adE n1 d1 (-n2) d2 = 8 := by
  have h : ¬ (okF n1 d1 = true ∧ okF (-n2) d2 = true) := fun h => ho (okF_unneg h)
  rw [adN, adD, adE, if_neg h, if_neg h, if_neg h]
  exact ⟨rfl, rfl, rfl⟩

set_option maxHeartbeats 400000 in
theorem ref_Neg (n d : Int) (a1 : -9223372036854775807 ≤ n) (a2 : n ≤ 9223372036854775807) (w : World) :
    Calls Try.prog 58 #[.agg #[.int .i64 n, .int .i64 d]] w fun e w' => e = .returned (.agg #[.int .i64 (-n), .int .i64 d]) ∧ Below w.heap.size w w' := by
  go_enter Try.func58, Try.ntmps58
  go_wp2
  go_returns
  exact ⟨rfl, by (repeat (first | with_reducible exact b0 _ | (with_reducible refine bext ?_ _ _) | (with_reducible refine below_drewN ?_ _) | (with_reducible refine Below.drew ?_) | (with_reducible refine bal ?_ _)))⟩

set_option maxRecDepth 100000 in
set_option maxHeartbeats 1600000 in
theorem ref_Sub (n1 d1 n2 d2 : Int) (a1 : -9223372036854775808 ≤ n1) (a2 : n1 ≤ 9223372036854775807) (a3 : -9223372036854775808 ≤ d1) (a4 : d1 ≤ 9223372036854775807)
    (c1 : -9223372036854775808 ≤ n2) (c2 : n2 ≤ 9223372036854775807) (c3 : -9223372036854775808 ≤ d2) (c4 : d2 ≤ 9223372036854775807) (w : World) :
    Calls Try.prog 35 #[.agg #[.int .i64 n1, .int .i64 d1], .agg #[.int .i64 n2, .int .i64 d2]] w fun e w' =>
      e = .returned (.tuple #[.agg #[.int .i64 (adN n1 d1 (-n2) d2), .int .i64 (adD n1 d1 (-n2) d2)], .int .i64 (adE n1 d1 (-n2) d2)]) ∧ Below w.heap.size w w' := by
  have A1 := fun w => ref_Both n1 d1 n2 d2 a1 a2 a3 a4 c1 c2 c3 c4 w
  by_cases ho : okF n1 d1 = true ∧ okF n2 d2 = true
  · have hc : chk2 n1 d1 n2 d2 = 0 := by rw [chk2, if_pos ho.1, chkI, if_pos ho.2]
    rw [hc] at A1
    obtain ⟨p1, p2, p3, p4, p5⟩ := okF_out ho.2
    have A2 := fun w => ref_Neg n2 d2 (by omega) c2 w
    have A3 := fun w => ref_Add n1 d1 (-n2) d2 a1 a2 a3 a4 (by omega) (by omega) c3 c4 w
    generalize adN n1 d1 (-n2) d2 = x at *
    generalize adD n1 d1 (-n2) d2 = y at *
    generalize adE n1 d1 (-n2) d2 = z at *
    clear ho hc p1 p2 p5
    have dAl := dAl; have dSt := dSt; have xC := ext_cell; have xF := ext_frozen; have xS := ext_set; have xN := ext_drewN; have xD := ext_drew; have xL := ext_lt; have xE := ext_ne; have xG := ext_nr; have xX := ext_ext; have xL1 := ext_lt1; have xL2 := ext_lt2; have xL3 := ext_lt3; have xM0 := ext_le0; have xM1 := ext_le1; have xM2 := ext_le2
    go_enter Try.func35, Try.ntmps35
    go_wp2_with fail
    refine (A1 _).mono ?_
    rintro e w3c ⟨rfl, hb3c⟩
    obtain ⟨l3c, d3c, rfl⟩ := toExt hb3c
    clear hb3c
    clear A1
    go_wp2_with fail
    go_region_held3 (fun w' => w'.cell? ⟨w.heap.size, 0, none⟩ = some (.int .i64 n1) ∧ w'.cell? ⟨w.heap.size, 1, none⟩ = some (.int .i64 d1) ∧ w'.cell? ⟨w.heap.size + 1, 0, none⟩ = some (.int .i64 n2) ∧ w'.cell? ⟨w.heap.size + 1, 1, none⟩ = some (.int .i64 d2)) (simp (maxDischargeDepth := 8) [go_sem, World.cell?_alloc_past, ltk2, ltk3, ltk4, ltk5, ltk6, ltk7, ltk8, ltk9, *])
        ((first
          | (go_at_call 58; with_reducible refine (A2 _).mono ?_; rintro e w' ⟨rfl, hb⟩; obtain ⟨l, d, rfl⟩ := toExt hb; clear hb)
          | (go_at_call 34; with_reducible refine (A3 _).mono ?_; rintro e w' ⟨rfl, hb⟩; obtain ⟨l, d, rfl⟩ := toExt hb; clear hb)))
    all_goals (try go_wp2)
    refine bodyPost_ret (by simp [results, Try.results35, go_sem, ext_cell, World.cell?_alloc_past, ltk2, ltk3, ltk4, ltk5, ltk6, ltk7, ltk8, ltk9, *]; try rfl) rfl ?_
    exact ⟨rfl, by (repeat (first | with_reducible exact b0 _ | (with_reducible refine bext ?_ _ _) | (with_reducible refine below_drewN ?_ _) | (with_reducible refine Below.drew ?_) | (with_reducible refine bal ?_ _)))⟩
  · obtain ⟨r1, r2, r3⟩ := ad_bad ho
    rw [r1, r2, r3]
    rw [chk2_bad ho] at A1
    clear ho r1 r2 r3
    have dAl := dAl; have dSt := dSt; have xC := ext_cell; have xF := ext_frozen; have xS := ext_set; have xN := ext_drewN; have xD := ext_drew; have xL := ext_lt; have xE := ext_ne; have xG := ext_nr; have xX := ext_ext; have xL1 := ext_lt1; have xL2 := ext_lt2; have xL3 := ext_lt3; have xM0 := ext_le0; have xM1 := ext_le1; have xM2 := ext_le2
    go_enter Try.func35, Try.ntmps35
    go_wp2_with fail
    refine (A1 _).mono ?_
    rintro e w4c ⟨rfl, hb4c⟩
    obtain ⟨l4c, d4c, rfl⟩ := toExt hb4c
    clear hb4c
    go_wp2_with fail
    refine (A1 _).mono ?_
    rintro e w5c ⟨rfl, hb5c⟩
    obtain ⟨l5c, d5c, rfl⟩ := toExt hb5c
    clear hb5c
    clear A1
    go_wp2
    refine bodyPost_ret (by simp [results, Try.results35, go_sem, ext_cell, World.cell?_alloc_past, ltk2, ltk3, ltk4, ltk5, ltk6, ltk7, ltk8, ltk9, *]; try rfl) rfl ?_
    exact ⟨rfl, by (repeat (first | with_reducible exact b0 _ | (with_reducible refine bext ?_ _ _) | (with_reducible refine below_drewN ?_ _) | (with_reducible refine Below.drew ?_) | (with_reducible refine bal ?_ _)))⟩
end Go.Proofs.Ytilcgbloangcmaa
