/-
  The functions of the reference that reckon with fractions: fractions, products, quotients.
-/
import Derived.Test.YtilcgbloangcmaaFlb
import Derived.Test.YtilcgbloangcmaaFnp
namespace Go.Proofs.Ytilcgbloangcmaa
open Go.RowKit
set_option linter.unusedVariables false
set_option linter.unusedSimpArgs false

theorem big_dg (m : Int) (h0 : 0 ≤ m) (h1 : m < 18446744073709551616) : m % 4294967296 = dg0 m ∧ m / 4294967296 = dg1 m ∧ (0 : Int) = dg2 m ∧ (0 : Int) = dg3 m := by
  unfold dg0 dg1 dg2 dg3; omega
theorem absI_div (n g : Int) (hg : 0 < g) (h : g ∣ n) : absI (n / g) = absI n / g := by
  obtain ⟨c, rfl⟩ := h
  rw [Int.mul_ediv_cancel_left _ (by omega)]
  unfold absI
  rw [Int.natAbs_mul, Int.natCast_mul]
  have : ((g.natAbs : Nat) : Int) = g := by omega
  rw [this, Int.mul_ediv_cancel_left _ (by omega)]
theorem neg_div (n g : Int) (hg : 0 < g) (h : g ∣ n) : decide (n / g < 0) = decide (n < 0) := by
  obtain ⟨c, rfl⟩ := h
  rw [Int.mul_ediv_cancel_left _ (by omega), decide_eq_decide]
  constructor
  · intro h; exact Int.mul_neg_of_pos_of_neg hg h
  · intro h
    rcases Int.lt_or_le c 0 with k | k
    · exact k
    · have := Int.mul_nonneg (show 0 ≤ g by omega) k; omega
theorem sgB_div (n1 n2 g h : Int) (hg : 0 < g) (hh : 0 < h) (d1 : g ∣ n1) (d2 : h ∣ n2) : sgB (n1 / g) (n2 / h) = sgB n1 n2 := by
  unfold sgB; rw [neg_div n1 g hg d1, neg_div n2 h hh d2]

set_option maxRecDepth 100000 in
set_option maxHeartbeats 8000000 in
theorem ref_Mul (n1 d1 n2 d2 : Int) (a1 : -9223372036854775808 ≤ n1) (a2 : n1 ≤ 9223372036854775807) (a3 : -9223372036854775808 ≤ d1) (a4 : d1 ≤ 9223372036854775807)
    (c1 : -9223372036854775808 ≤ n2) (c2 : n2 ≤ 9223372036854775807) (c3 : -9223372036854775808 ≤ d2) (c4 : d2 ≤ 9223372036854775807) (w : World) :
    Calls Try.prog 36 #[.agg #[.int .i64 n1, .int .i64 d1], .agg #[.int .i64 n2, .int .i64 d2]] w fun e w' =>
      e = .returned (.tuple #[.agg #[.int .i64 (muN n1 d1 n2 d2), .int .i64 (muD n1 d1 n2 d2)], .int .i64 (muE n1 d1 n2 d2)]) ∧ Below w.heap.size w w' := by
  have A1 := fun w => ref_Both n1 d1 n2 d2 a1 a2 a3 a4 c1 c2 c3 c4 w
  by_cases ho : okF n1 d1 = true ∧ okF n2 d2 = true
  · have hc : chk2 n1 d1 n2 d2 = 0 := by rw [chk2, if_pos ho.1, chkI, if_pos ho.2]
    rw [hc] at A1
    obtain ⟨o1, o2, o3, o4, o5⟩ := okF_out ho.1
    obtain ⟨p1, p2, p3, p4, p5⟩ := okF_out ho.2
    have r1 : muN n1 d1 n2 d2 = mkN (n1 * n2) (d1 * d2) := by rw [muN, if_pos ho]
    have r2 : muD n1 d1 n2 d2 = mkD (n1 * n2) (d1 * d2) := by rw [muD, if_pos ho]
    have r3 : muE n1 d1 n2 d2 = mkE (n1 * n2) (d1 * d2) := by rw [muE, if_pos ho]
    rw [r1, r2, r3]
    obtain ⟨g0, gl, h0, hl, gn, gd, hn, hd, x1, x2⟩ := prod_mk n1 d1 n2 d2 _ _ o1 p1 o5 p5 rfl rfl
    have A2 := fun w => ref_abs n1 a1 a2 w
    have A3 := fun w => ref_abs n2 c1 c2 w
    have z1 := absI_bd n1 a1 a2
    have z2 := absI_bd n2 c1 c2
    have A4 := fun w => ref_gcd (absI n1) d2 (by omega) (by omega) (by omega) (by omega) w
    have A5 := fun w => ref_gcd (absI n2) d1 (by omega) (by omega) (by omega) (by omega) w
    rw [gcdI_abs] at A4 A5
    have y1 := absI_div n1 _ g0 gn
    have y2 := absI_div n2 _ h0 hn
    have b := bd_mk (sgB n1 n2) (absI n1 / gcdI n1 d2 * (absI n2 / gcdI n2 d1)) (d1 / gcdI n2 d1 * (d2 / gcdI n1 d2)) (n1 * n2) (d1 * d2) (by rw [x1, ← sgB_div n1 n2 _ _ g0 h0 gn hn, ← y1, ← y2]; exact sg_mul _ _) (by rw [x1, ← y1, ← y2, ← sg_mul]; exact abs_sv _ _ (Int.mul_nonneg (absI_nn _) (absI_nn _))) x2.symm
    obtain ⟨R1, R2, R3⟩ := b
    rw [← R1, ← R2, ← R3]
    clear R1 R2 R3 x1 x2 y1 y2 r1 r2 r3 hc ho
    have q1 := div_bd d1 (gcdI n2 d1) 1000000000000000000 h0 (by omega) o2
    have q2 := div_bd d2 (gcdI n1 d2) 1000000000000000000 g0 (by omega) p2
    have q3 := div_bd (absI n1) (gcdI n1 d2) 1000000000000000000 g0 z1.1 (absI_le n1 o3 o4)
    have q4 := div_bd (absI n2) (gcdI n2 d1) 1000000000000000000 h0 z2.1 (absI_le n2 p3 p4)
    have t1 : (absI n1).tdiv (gcdI n1 d2) = absI n1 / gcdI n1 d2 := Int.tdiv_eq_ediv_of_nonneg z1.1
    have t2 : (absI n2).tdiv (gcdI n2 d1) = absI n2 / gcdI n2 d1 := Int.tdiv_eq_ediv_of_nonneg z2.1
    have t3 : d1.tdiv (gcdI n2 d1) = d1 / gcdI n2 d1 := Int.tdiv_eq_ediv_of_nonneg (by omega)
    have t4 : d2.tdiv (gcdI n1 d2) = d2 / gcdI n1 d2 := Int.tdiv_eq_ediv_of_nonneg (by omega)
    have w3 : IntKind.u64.wrap d1 = d1 := by rw [IntKind.wrap_u64]; omega
    have w4 : IntKind.u64.wrap d2 = d2 := by rw [IntKind.wrap_u64]; omega
    generalize gcdI n1 d2 = g at *
    generalize gcdI n2 d1 = h at *
    generalize absI n1 / g = p at *
    generalize absI n2 / h = q at *
    generalize d1 / h = r at *
    generalize d2 / g = t at *
    generalize absI n1 = x at *
    generalize absI n2 = y at *
    have m1 := mul_bd p q 1000000000000000000 1000000000000000000 q3.1 q3.2 q4.1 q4.2
    have m2 := mul_bd r t 1000000000000000000 1000000000000000000 q1.1 q1.2 q2.1 q2.2
    have A6 := fun w => ref_Product p q (by omega) (by omega) (by omega) (by omega) w
    have A7 := fun w => ref_Product r t (by omega) (by omega) (by omega) (by omega) w
    generalize p * q = P at *
    generalize r * t = Q at *
    have A8 := fun w => ref_lowest (sgB n1 n2) P Q (by omega) (by omega) (by omega) (by omega) w
    have b1 : ¬ g = 0 := by omega
    have b2 : ¬ h = 0 := by omega
    have w5 : IntKind.u64.wrap p = p := by rw [IntKind.wrap_u64]; omega
    have w6 : IntKind.u64.wrap q = q := by rw [IntKind.wrap_u64]; omega
    have w7 : IntKind.u64.wrap r = r := by rw [IntKind.wrap_u64]; omega
    have w8 : IntKind.u64.wrap t = t := by rw [IntKind.wrap_u64]; omega
    have hs : (!decide (n1 < 0) == decide (n2 < 0)) = sgB n1 n2 := by unfold sgB; cases decide (n1 < 0) <;> cases decide (n2 < 0) <;> rfl
    generalize sgB n1 n2 = s at *
    generalize bdN s P Q = r1 at *
    generalize bdD false P Q = r2 at *
    generalize bdE P Q = r3 at *
    generalize dg0 P = x0 at *
    generalize dg1 P = x1 at *
    generalize dg2 P = x2 at *
    generalize dg3 P = x3 at *
    generalize dg0 Q = y0 at *
    generalize dg1 Q = y1 at *
    generalize dg2 Q = y2 at *
    generalize dg3 Q = y3 at *
    have dAl := dAl; have dSt := dSt; have xC := ext_cell; have xF := ext_frozen; have xS := ext_set; have xN := ext_drewN; have xD := ext_drew; have xL := ext_lt; have xE := ext_ne; have xG := ext_nr; have xX := ext_ext; have xL1 := ext_lt1; have xL2 := ext_lt2; have xL3 := ext_lt3; have xM0 := ext_le0; have xM1 := ext_le1; have xM2 := ext_le2
    go_enter Try.func36, Try.ntmps36
    go_wp2_with fail
    refine (A1 _).mono ?_
    rintro e wz ⟨rfl, hb⟩
    have hB0 : Below w.heap.size w wz := bt (by (repeat (first | with_reducible exact b0 _ | (with_reducible refine bext ?_ _ _) | (with_reducible refine below_drewN ?_ _) | (with_reducible refine Below.drew ?_) | (with_reducible refine bal ?_ _)))) hb
    obtain ⟨lz, dz, hw⟩ := toExt hb
    clear hb A1
    have k0 : wz.cell? ⟨w.heap.size, 0, none⟩ = some (.int .i64 n1) := by rw [hw]; (simp (maxDischargeDepth := 8) [go_sem, World.cell?_alloc_past, ltk2, ltk3, ltk4, ltk5, ltk6, ltk7, ltk8, ltk9, *])
    have k1 : wz.cell? ⟨w.heap.size, 1, none⟩ = some (.int .i64 d1) := by rw [hw]; (simp (maxDischargeDepth := 8) [go_sem, World.cell?_alloc_past, ltk2, ltk3, ltk4, ltk5, ltk6, ltk7, ltk8, ltk9, *])
    have k2 : wz.cell? ⟨w.heap.size + 1, 0, none⟩ = some (.int .i64 n2) := by rw [hw]; (simp (maxDischargeDepth := 8) [go_sem, World.cell?_alloc_past, ltk2, ltk3, ltk4, ltk5, ltk6, ltk7, ltk8, ltk9, *])
    have k3 : wz.cell? ⟨w.heap.size + 1, 1, none⟩ = some (.int .i64 d2) := by rw [hw]; (simp (maxDischargeDepth := 8) [go_sem, World.cell?_alloc_past, ltk2, ltk3, ltk4, ltk5, ltk6, ltk7, ltk8, ltk9, *])
    have k4 : wz.cell? ⟨w.heap.size + 1 + 1, 0, none⟩ = some (.int .i64 0) := by rw [hw]; (simp (maxDischargeDepth := 8) [go_sem, World.cell?_alloc_past, ltk2, ltk3, ltk4, ltk5, ltk6, ltk7, ltk8, ltk9, *])
    have k5 : wz.cell? ⟨w.heap.size + 1 + 1, 1, none⟩ = some (.int .i64 0) := by rw [hw]; (simp (maxDischargeDepth := 8) [go_sem, World.cell?_alloc_past, ltk2, ltk3, ltk4, ltk5, ltk6, ltk7, ltk8, ltk9, *])
    have k6 : wz.frozen? ⟨w.heap.size + 1 + 1, 0, none⟩ = false := by rw [hw]; (simp (maxDischargeDepth := 8) [go_sem, World.cell?_alloc_past, ltk2, ltk3, ltk4, ltk5, ltk6, ltk7, ltk8, ltk9, *])
    have k7 : wz.frozen? ⟨w.heap.size + 1 + 1, 1, none⟩ = false := by rw [hw]; (simp (maxDischargeDepth := 8) [go_sem, World.cell?_alloc_past, ltk2, ltk3, ltk4, ltk5, ltk6, ltk7, ltk8, ltk9, *])
    have sz : w.heap.size + 1 + 1 < wz.heap.size := by rw [hw]; simp [ext_size]; try omega
    clear hw
    have sz0 : w.heap.size < wz.heap.size := by omega
    have sz1 : w.heap.size + 1 < wz.heap.size := by omega
    go_wp2_with fail
    go_quiet ((first | (go_at_call 52; with_reducible exact Calls.quiet_of_same (A2 _)) | (go_at_call 52; with_reducible exact Calls.quiet_of_same (A3 _)) | (go_at_call 50; with_reducible exact Calls.quiet_of (A4 _)) | (go_at_call 50; with_reducible exact Calls.quiet_of (A5 _)) | (go_at_call 52; with_reducible exact qSame (A2 _)) | (go_at_call 52; with_reducible exact qSame (A3 _)) | (go_at_call 50; with_reducible exact qAdd (A4 _)) | (go_at_call 50; with_reducible exact qAdd (A5 _))))
    go_wp2_with fail
    have dz1 : ∀ (W : World) (l : List Obj) (d : Nat), (ext W.drew l d) = (ext W l d) := fun _ _ _ => rfl
    have dz2 : ∀ (W : World) (l : List Obj) (n d : Nat), (ext (W.drewN n) l d) = (ext W l d) := fun _ _ _ _ => rfl
    go_region_held3 (fun w' => w'.cell? ⟨w.heap.size, 0, none⟩ = some (.int .i64 n1) ∧ w'.cell? ⟨w.heap.size, 1, none⟩ = some (.int .i64 d1) ∧ w'.cell? ⟨w.heap.size + 1, 0, none⟩ = some (.int .i64 n2) ∧ w'.cell? ⟨w.heap.size + 1, 1, none⟩ = some (.int .i64 d2)) (simp (maxDischargeDepth := 8) [go_sem, World.cell?_alloc_past, ltk2, ltk3, ltk4, ltk5, ltk6, ltk7, ltk8, ltk9, *])
        ((first
          | (go_at_call 52; with_reducible refine (A2 _).mono ?_; rintro e w' ⟨rfl, rfl⟩)
          | (go_at_call 52; with_reducible refine (A3 _).mono ?_; rintro e w' ⟨rfl, rfl⟩)
          | (go_at_call 51; with_reducible refine (A6 _).mono ?_; rintro e w' ⟨rfl, o1, o2, o3, o4, o5, o6, nn, hw⟩; obtain ⟨l, d, rfl⟩ := toExt (below6 hw); clear hw)
          | (go_at_call 51; with_reducible refine (A7 _).mono ?_; rintro e w' ⟨rfl, o1, o2, o3, o4, o5, o6, nn, hw⟩; obtain ⟨l, d, rfl⟩ := toExt (below6 hw); clear hw)
          | (go_at_call 57; with_reducible refine (A8 _).mono ?_; rintro e w' ⟨rfl, hb⟩; obtain ⟨l, d, rfl⟩ := toExt hb; clear hb)))
    all_goals (try go_wp2_with fail)
    all_goals (try go_wp2)
    all_goals refine bodyPost_ret (by simp [results, Try.results36, go_sem, ext_cell, World.cell?_alloc_past, ltk2, ltk3, ltk4, ltk5, ltk6, ltk7, ltk8, ltk9, *]; try rfl) rfl ?_
    all_goals exact ⟨rfl, by (repeat (first | exact hB0 | (refine bext ?_ _ _) | (refine below_drewN ?_ _) | (refine Below.drew ?_) | (refine bal ?_ _) | (refine bset ?_ (by simp; omega) _)))⟩
  · have hc : chk2 n1 d1 n2 d2 = 8 := by
      rw [chk2]
      by_cases h1 : okF n1 d1 = true
      · rw [if_pos h1, chkI, if_neg (fun h2 => ho ⟨h1, h2⟩)]
      · rw [if_neg h1]
    rw [hc] at A1
    have r1 : muN n1 d1 n2 d2 = 0 := by rw [muN, if_neg ho]
    have r2 : muD n1 d1 n2 d2 = 0 := by rw [muD, if_neg ho]
    have r3 : muE n1 d1 n2 d2 = 8 := by rw [muE, if_neg ho]
    rw [r1, r2, r3]
    clear ho hc r1 r2 r3
    have dAl := dAl; have dSt := dSt; have xC := ext_cell; have xF := ext_frozen; have xS := ext_set; have xN := ext_drewN; have xD := ext_drew; have xL := ext_lt; have xE := ext_ne; have xG := ext_nr; have xX := ext_ext; have xL1 := ext_lt1; have xL2 := ext_lt2; have xL3 := ext_lt3; have xM0 := ext_le0; have xM1 := ext_le1; have xM2 := ext_le2
    go_enter Try.func36, Try.ntmps36
    go_wp2_with fail
    refine (A1 _).mono ?_
    rintro e w1c ⟨rfl, hb1c⟩
    obtain ⟨l1c, d1c, rfl⟩ := toExt hb1c
    clear hb1c
    go_wp2_with fail
    refine (A1 _).mono ?_
    rintro e w2c ⟨rfl, hb2c⟩
    obtain ⟨l2c, d2c, rfl⟩ := toExt hb2c
    clear hb2c
    clear A1
    go_wp2
    refine bodyPost_ret (by simp [results, Try.results36, go_sem, ext_cell, World.cell?_alloc_past, ltk2, ltk3, ltk4, ltk5, ltk6, ltk7, ltk8, ltk9, *]; try rfl) rfl ?_
    exact ⟨rfl, by (repeat (first | with_reducible exact b0 _ | (with_reducible refine bext ?_ _ _) | (with_reducible refine below_drewN ?_ _) | (with_reducible refine Below.drew ?_) | (with_reducible refine bal ?_ _)))⟩
end Go.Proofs.Ytilcgbloangcmaa
