/-
  SineSums, walked.
-/
import Derived.Test.YtilcgbloangcmaaSr
import Derived.Test.YtilcgbloangcmaaUe
namespace Go.Proofs.Ytilcgbloangcmaa
open Go.RowKit
set_option linter.unusedVariables false
set_option linter.unusedSimpArgs false

set_option maxRecDepth 100000 in
set_option maxHeartbeats 6400000 in
theorem sums_main (k l : Int) (n : Nat) (h1 : 1 ≤ n) (h2 : n ≤ 720) (k1 : -1000000 ≤ k) (k2 : k ≤ 1000000) (l1 : -1000000 ≤ l) (l2 : l ≤ 1000000) (w : World) :
    Calls Try.prog 7 #[.int .i64 k, .int .i64 l, .int .i64 n] w fun x w' => x = .returned (.bool true) ∧ Below w.heap.size w w' := by
  have hn : nOk (n : Int) = true := by simp [nOk]; omega
  have hT : ((n : Int)).toNat = n := by omega
  have F0 : coE (n : Int) = 0 := by rw [coE, if_pos hn]
  have cu : ∀ k : Int, unitS (coL k n) (coH k n) := by
    intro k; rw [coL, coH, if_pos hn, if_pos hn, hT]; exact cs_unit _ n h1 h2
  have su : ∀ k : Int, unitS (siL k n) (siH k n) := by
    intro k; rw [siL, siH, if_pos hn, if_pos hn, hT]; exact cs_unit _ n h1 h2
  obtain ⟨s1, s2, s3⟩ := int_sums k l n h1 h2
  obtain ⟨e1, u1, _⟩ := mul_unit (cu k) (cu l)
  obtain ⟨e2, u2, _⟩ := mul_unit (su k) (su l)
  obtain ⟨e3, u3, _⟩ := mul_unit (su k) (cu l)
  obtain ⟨e4, u4, _⟩ := mul_unit (cu k) (su l)
  obtain ⟨e5, u5, _⟩ := mul_unit (cu k) (cu k)
  have AL := fun w => law5_alive w
  have A1 := fun w => sine_Cos k n (by omega) (by omega) w
  have A2 := fun w => sine_Sin k n (by omega) (by omega) w
  have A3 := fun w => sine_Cos l n (by omega) (by omega) w
  have A4 := fun w => sine_Sin l n (by omega) (by omega) w
  have A5 := fun w => sine_Cos (k + l) n (by omega) (by omega) w
  have A6 := fun w => sine_Sin (k + l) n (by omega) (by omega) w
  have M1 := fun w => sine_Mul (coL k n) (coH k n) (coL l n) (coH l n) w
  have M2 := fun w => sine_Mul (siL k n) (siH k n) (siL l n) (siH l n) w
  have M3 := fun w => sine_Mul (siL k n) (siH k n) (coL l n) (coH l n) w
  have M4 := fun w => sine_Mul (coL k n) (coH k n) (siL l n) (siH l n) w
  have M5 := fun w => sine_Mul (coL k n) (coH k n) (coL k n) (coH k n) w
  have A7 := fun w => sine_Cos (2 * k) n (by omega) (by omega) w
  rw [F0] at A1 A2 A3 A4 A5 A6 A7
  rw [e1] at M1
  rw [e2] at M2
  rw [e3] at M3
  rw [e4] at M4
  rw [e5] at M5
  have t1 := cu (k + l)
  have t2 := su (k + l)
  have t3 := cu (2 * k)
  clear e1 e2 e3 e4 e5 hn hT F0 cu su
  generalize smL (coL k n) (coH k n) (coL l n) (coH l n) = p0 at *
  generalize smH (coL k n) (coH k n) (coL l n) (coH l n) = p1 at *
  generalize smL (siL k n) (siH k n) (siL l n) (siH l n) = q0 at *
  generalize smH (siL k n) (siH k n) (siL l n) (siH l n) = q1 at *
  generalize smL (siL k n) (siH k n) (coL l n) (coH l n) = r0 at *
  generalize smH (siL k n) (siH k n) (coL l n) (coH l n) = r1 at *
  generalize smL (coL k n) (coH k n) (siL l n) (siH l n) = s0 at *
  generalize smH (coL k n) (coH k n) (siL l n) (siH l n) = sz at *
  generalize smL (coL k n) (coH k n) (coL k n) (coH k n) = f0 at *
  generalize smH (coL k n) (coH k n) (coL k n) (coH k n) = f1 at *
  generalize coL (k + l) n = x0 at *
  generalize coH (k + l) n = x1 at *
  generalize siL (k + l) n = y0 at *
  generalize siH (k + l) n = y1 at *
  generalize coL (2 * k) n = t0 at *
  generalize coH (2 * k) n = tz at *
  generalize coL k n = a0 at *
  generalize coH k n = a1 at *
  generalize siL k n = bq0 at *
  generalize siH k n = bq1 at *
  generalize coL l n = c0 at *
  generalize coH l n = c1 at *
  generalize siL l n = d0 at *
  generalize siH l n = d1 at *
  obtain ⟨g1, g2, g3⟩ := sub_unit (a := p0) (b := p1) (by unfold unitS at u1; omega) u2
  obtain ⟨g4, g5, g6⟩ := add_unit u3 u4
  obtain ⟨g7, g8, g9⟩ := add_unit u5 u5
  have u6 : unitS 1000000 1000000 := by unfold unitS; omega
  obtain ⟨ga, gb, gc⟩ := sub_unit (a := f0 + f0) (b := f1 + f1) (by unfold unitS at u5; omega) u6
  have B1 := fun w => sine_Sub p0 p1 q0 q1 w
  have B2 := fun w => sine_Add r0 r1 s0 sz w
  have B3 := fun w => sine_Add f0 f1 f0 f1 w
  have B4 := fun w => sine_Sub (f0 + f0) (f1 + f1) 1000000 1000000 w
  rw [g1, g2, g3] at B1
  rw [g4, g5, g6] at B2
  rw [g7, g8, g9] at B3
  rw [ga, gb, gc] at B4
  have C1 := fun w => law5_common (p0 - q1) (p1 - q0) x0 x1 w
  have C2 := fun w => law5_common (r0 + s0) (r1 + sz) y0 y1 w
  have C3 := fun w => law5_common t0 tz (f0 + f0 - 1000000) (f1 + f1 - 1000000) w
  rw [show decide (p0 - q1 ≤ x1 ∧ x0 ≤ p1 - q0) = true by simp; omega] at C1
  rw [show decide (r0 + s0 ≤ y1 ∧ y0 ≤ r1 + sz) = true by simp; omega] at C2
  rw [show decide (t0 ≤ f1 + f1 - 1000000 ∧ f0 + f0 - 1000000 ≤ tz) = true by simp; omega] at C3
  generalize p0 - q1 = U0 at *
  generalize p1 - q0 = U1 at *
  generalize r0 + s0 = V0 at *
  generalize r1 + sz = V1 at *
  generalize f0 + f0 - 1000000 = L0 at *
  generalize f1 + f1 - 1000000 = L1 at *
  generalize f0 + f0 = B0 at *
  generalize f1 + f1 = BZ at *
  clear g1 g2 g3 g4 g5 g6 g7 g8 g9 ga gb gc u1 u2 u3 u4 u5 u6 t1 t2 t3 s1 s2 s3
  have dAl := dAl; have dSt := dSt; have xC := ext_cell; have xF := ext_frozen; have xS := ext_set; have xN := ext_drewN; have xD := ext_drew; have xL := ext_lt; have xE := ext_ne; have xG := ext_nr; have xX := ext_ext; have xL1 := ext_lt1; have xL2 := ext_lt2; have xL3 := ext_lt3; have xM0 := ext_le0; have xM1 := ext_le1; have xM2 := ext_le2
  go_enter Try.func7, Try.ntmps7
  go_wp2_with fail
  with_reducible refine (A1 _).mono ?_
  rintro e v1 ⟨rfl, hb1⟩
  have zz1 := hb1.size
  try simp [ext_size] at zz1
  have hB1 : Below w.heap.size w v1 := Below.trans (by (repeat (first | with_reducible exact b0 _ | (with_reducible refine bext ?_ _ _) | (with_reducible refine below_drewN ?_ _) | (with_reducible refine Below.drew ?_) | (with_reducible refine bal ?_ _)))) (hb1.mono (by first | omega | (simp [ext_size]; try omega)))
  have zw1 := hB1.size
  clear hb1
  go_wp2_with fail
  with_reducible refine (A2 _).mono ?_
  rintro e v2 ⟨rfl, hb2⟩
  have zz2 := hb2.size
  try simp [ext_size] at zz2
  have cc2_0 : v2.cell? ⟨v1.heap.size, 0, none⟩ = some (.int .i64 a0) := (hb2.cell (p := ⟨v1.heap.size, 0, none⟩) (by first | omega | (simp [ext_size]; try omega))).trans (by (simp (maxDischargeDepth := 8) [go_sem, World.cell?_alloc_past, ltk2, ltk3, ltk4, ltk5, ltk6, ltk7, ltk8, ltk9, *]))
  have cc2_1 : v2.cell? ⟨v1.heap.size, 1, none⟩ = some (.int .i64 a1) := (hb2.cell (p := ⟨v1.heap.size, 1, none⟩) (by first | omega | (simp [ext_size]; try omega))).trans (by (simp (maxDischargeDepth := 8) [go_sem, World.cell?_alloc_past, ltk2, ltk3, ltk4, ltk5, ltk6, ltk7, ltk8, ltk9, *]))
  have zl2_0 : v1.heap.size < v2.heap.size := by omega
  have hB2 : Below w.heap.size w v2 := Below.trans (by (repeat (first | with_reducible exact hB1 | (with_reducible refine bext ?_ _ _) | (with_reducible refine below_drewN ?_ _) | (with_reducible refine Below.drew ?_) | (with_reducible refine bal ?_ _) | (with_reducible refine bset ?_ (by first | omega | (simp <;> omega)) _)))) (hb2.mono (by first | omega | (simp [ext_size]; try omega)))
  have zw2 := hB2.size
  clear hb2
  clear zz1 zw1 hB1
  go_wp2_with fail
  with_reducible refine (A3 _).mono ?_
  rintro e v3 ⟨rfl, hb3⟩
  have zz3 := hb3.size
  try simp [ext_size] at zz3
  have cc3_0 : v3.cell? ⟨v1.heap.size, 0, none⟩ = some (.int .i64 a0) := (hb3.cell (p := ⟨v1.heap.size, 0, none⟩) (by first | omega | (simp [ext_size]; try omega))).trans (by (simp (maxDischargeDepth := 8) [go_sem, World.cell?_alloc_past, ltk2, ltk3, ltk4, ltk5, ltk6, ltk7, ltk8, ltk9, *]))
  have cc3_1 : v3.cell? ⟨v1.heap.size, 1, none⟩ = some (.int .i64 a1) := (hb3.cell (p := ⟨v1.heap.size, 1, none⟩) (by first | omega | (simp [ext_size]; try omega))).trans (by (simp (maxDischargeDepth := 8) [go_sem, World.cell?_alloc_past, ltk2, ltk3, ltk4, ltk5, ltk6, ltk7, ltk8, ltk9, *]))
  have cc3_2 : v3.cell? ⟨v2.heap.size, 0, none⟩ = some (.int .i64 bq0) := (hb3.cell (p := ⟨v2.heap.size, 0, none⟩) (by first | omega | (simp [ext_size]; try omega))).trans (by (simp (maxDischargeDepth := 8) [go_sem, World.cell?_alloc_past, ltk2, ltk3, ltk4, ltk5, ltk6, ltk7, ltk8, ltk9, *]))
  have cc3_3 : v3.cell? ⟨v2.heap.size, 1, none⟩ = some (.int .i64 bq1) := (hb3.cell (p := ⟨v2.heap.size, 1, none⟩) (by first | omega | (simp [ext_size]; try omega))).trans (by (simp (maxDischargeDepth := 8) [go_sem, World.cell?_alloc_past, ltk2, ltk3, ltk4, ltk5, ltk6, ltk7, ltk8, ltk9, *]))
  have zl3_0 : v1.heap.size < v3.heap.size := by omega
  have zl3_1 : v2.heap.size < v3.heap.size := by omega
  have hB3 : Below w.heap.size w v3 := Below.trans (by (repeat (first | with_reducible exact hB2 | (with_reducible refine bext ?_ _ _) | (with_reducible refine below_drewN ?_ _) | (with_reducible refine Below.drew ?_) | (with_reducible refine bal ?_ _) | (with_reducible refine bset ?_ (by first | omega | (simp <;> omega)) _)))) (hb3.mono (by first | omega | (simp [ext_size]; try omega)))
  have zw3 := hB3.size
  clear hb3
  clear cc2_0 cc2_1 zl2_0 zz2 zw2 hB2
  go_wp2_with fail
  with_reducible refine (A4 _).mono ?_
  rintro e v4 ⟨rfl, hb4⟩
  have zz4 := hb4.size
  try simp [ext_size] at zz4
  have cc4_0 : v4.cell? ⟨v1.heap.size, 0, none⟩ = some (.int .i64 a0) := (hb4.cell (p := ⟨v1.heap.size, 0, none⟩) (by first | omega | (simp [ext_size]; try omega))).trans (by (simp (maxDischargeDepth := 8) [go_sem, World.cell?_alloc_past, ltk2, ltk3, ltk4, ltk5, ltk6, ltk7, ltk8, ltk9, *]))
  have cc4_1 : v4.cell? ⟨v1.heap.size, 1, none⟩ = some (.int .i64 a1) := (hb4.cell (p := ⟨v1.heap.size, 1, none⟩) (by first | omega | (simp [ext_size]; try omega))).trans (by (simp (maxDischargeDepth := 8) [go_sem, World.cell?_alloc_past, ltk2, ltk3, ltk4, ltk5, ltk6, ltk7, ltk8, ltk9, *]))
  have cc4_2 : v4.cell? ⟨v2.heap.size, 0, none⟩ = some (.int .i64 bq0) := (hb4.cell (p := ⟨v2.heap.size, 0, none⟩) (by first | omega | (simp [ext_size]; try omega))).trans (by (simp (maxDischargeDepth := 8) [go_sem, World.cell?_alloc_past, ltk2, ltk3, ltk4, ltk5, ltk6, ltk7, ltk8, ltk9, *]))
  have cc4_3 : v4.cell? ⟨v2.heap.size, 1, none⟩ = some (.int .i64 bq1) := (hb4.cell (p := ⟨v2.heap.size, 1, none⟩) (by first | omega | (simp [ext_size]; try omega))).trans (by (simp (maxDischargeDepth := 8) [go_sem, World.cell?_alloc_past, ltk2, ltk3, ltk4, ltk5, ltk6, ltk7, ltk8, ltk9, *]))
  have cc4_4 : v4.cell? ⟨v3.heap.size, 0, none⟩ = some (.int .i64 c0) := (hb4.cell (p := ⟨v3.heap.size, 0, none⟩) (by first | omega | (simp [ext_size]; try omega))).trans (by (simp (maxDischargeDepth := 8) [go_sem, World.cell?_alloc_past, ltk2, ltk3, ltk4, ltk5, ltk6, ltk7, ltk8, ltk9, *]))
  have cc4_5 : v4.cell? ⟨v3.heap.size, 1, none⟩ = some (.int .i64 c1) := (hb4.cell (p := ⟨v3.heap.size, 1, none⟩) (by first | omega | (simp [ext_size]; try omega))).trans (by (simp (maxDischargeDepth := 8) [go_sem, World.cell?_alloc_past, ltk2, ltk3, ltk4, ltk5, ltk6, ltk7, ltk8, ltk9, *]))
  have zl4_0 : v1.heap.size < v4.heap.size := by omega
  have zl4_1 : v2.heap.size < v4.heap.size := by omega
  have zl4_2 : v3.heap.size < v4.heap.size := by omega
  have hB4 : Below w.heap.size w v4 := Below.trans (by (repeat (first | with_reducible exact hB3 | (with_reducible refine bext ?_ _ _) | (with_reducible refine below_drewN ?_ _) | (with_reducible refine Below.drew ?_) | (with_reducible refine bal ?_ _) | (with_reducible refine bset ?_ (by first | omega | (simp <;> omega)) _)))) (hb4.mono (by first | omega | (simp [ext_size]; try omega)))
  have zw4 := hB4.size
  clear hb4
  clear cc3_0 cc3_1 cc3_2 cc3_3 zl3_0 zl3_1 zz3 zw3 hB3
  go_wp2_with fail
  with_reducible refine (A5 _).mono ?_
  rintro e v5 ⟨rfl, hb5⟩
  have zz5 := hb5.size
  try simp [ext_size] at zz5
  have cc5_0 : v5.cell? ⟨v1.heap.size, 0, none⟩ = some (.int .i64 a0) := (hb5.cell (p := ⟨v1.heap.size, 0, none⟩) (by first | omega | (simp [ext_size]; try omega))).trans (by (simp (maxDischargeDepth := 8) [go_sem, World.cell?_alloc_past, ltk2, ltk3, ltk4, ltk5, ltk6, ltk7, ltk8, ltk9, *]))
  have cc5_1 : v5.cell? ⟨v1.heap.size, 1, none⟩ = some (.int .i64 a1) := (hb5.cell (p := ⟨v1.heap.size, 1, none⟩) (by first | omega | (simp [ext_size]; try omega))).trans (by (simp (maxDischargeDepth := 8) [go_sem, World.cell?_alloc_past, ltk2, ltk3, ltk4, ltk5, ltk6, ltk7, ltk8, ltk9, *]))
  have cc5_2 : v5.cell? ⟨v2.heap.size, 0, none⟩ = some (.int .i64 bq0) := (hb5.cell (p := ⟨v2.heap.size, 0, none⟩) (by first | omega | (simp [ext_size]; try omega))).trans (by (simp (maxDischargeDepth := 8) [go_sem, World.cell?_alloc_past, ltk2, ltk3, ltk4, ltk5, ltk6, ltk7, ltk8, ltk9, *]))
  have cc5_3 : v5.cell? ⟨v2.heap.size, 1, none⟩ = some (.int .i64 bq1) := (hb5.cell (p := ⟨v2.heap.size, 1, none⟩) (by first | omega | (simp [ext_size]; try omega))).trans (by (simp (maxDischargeDepth := 8) [go_sem, World.cell?_alloc_past, ltk2, ltk3, ltk4, ltk5, ltk6, ltk7, ltk8, ltk9, *]))
  have cc5_4 : v5.cell? ⟨v3.heap.size, 0, none⟩ = some (.int .i64 c0) := (hb5.cell (p := ⟨v3.heap.size, 0, none⟩) (by first | omega | (simp [ext_size]; try omega))).trans (by (simp (maxDischargeDepth := 8) [go_sem, World.cell?_alloc_past, ltk2, ltk3, ltk4, ltk5, ltk6, ltk7, ltk8, ltk9, *]))
  have cc5_5 : v5.cell? ⟨v3.heap.size, 1, none⟩ = some (.int .i64 c1) := (hb5.cell (p := ⟨v3.heap.size, 1, none⟩) (by first | omega | (simp [ext_size]; try omega))).trans (by (simp (maxDischargeDepth := 8) [go_sem, World.cell?_alloc_past, ltk2, ltk3, ltk4, ltk5, ltk6, ltk7, ltk8, ltk9, *]))
  have cc5_6 : v5.cell? ⟨v4.heap.size, 0, none⟩ = some (.int .i64 d0) := (hb5.cell (p := ⟨v4.heap.size, 0, none⟩) (by first | omega | (simp [ext_size]; try omega))).trans (by (simp (maxDischargeDepth := 8) [go_sem, World.cell?_alloc_past, ltk2, ltk3, ltk4, ltk5, ltk6, ltk7, ltk8, ltk9, *]))
  have cc5_7 : v5.cell? ⟨v4.heap.size, 1, none⟩ = some (.int .i64 d1) := (hb5.cell (p := ⟨v4.heap.size, 1, none⟩) (by first | omega | (simp [ext_size]; try omega))).trans (by (simp (maxDischargeDepth := 8) [go_sem, World.cell?_alloc_past, ltk2, ltk3, ltk4, ltk5, ltk6, ltk7, ltk8, ltk9, *]))
  have zl5_0 : v1.heap.size < v5.heap.size := by omega
  have zl5_1 : v2.heap.size < v5.heap.size := by omega
  have zl5_2 : v3.heap.size < v5.heap.size := by omega
  have zl5_3 : v4.heap.size < v5.heap.size := by omega
  have hB5 : Below w.heap.size w v5 := Below.trans (by (repeat (first | with_reducible exact hB4 | (with_reducible refine bext ?_ _ _) | (with_reducible refine below_drewN ?_ _) | (with_reducible refine Below.drew ?_) | (with_reducible refine bal ?_ _) | (with_reducible refine bset ?_ (by first | omega | (simp <;> omega)) _)))) (hb5.mono (by first | omega | (simp [ext_size]; try omega)))
  have zw5 := hB5.size
  clear hb5
  clear cc4_0 cc4_1 cc4_2 cc4_3 cc4_4 cc4_5 zl4_0 zl4_1 zl4_2 zz4 zw4 hB4
  go_wp2_with fail
  with_reducible refine (A6 _).mono ?_
  rintro e v6 ⟨rfl, hb6⟩
  have zz6 := hb6.size
  try simp [ext_size] at zz6
  have cc6_0 : v6.cell? ⟨v1.heap.size, 0, none⟩ = some (.int .i64 a0) := (hb6.cell (p := ⟨v1.heap.size, 0, none⟩) (by first | omega | (simp [ext_size]; try omega))).trans (by (simp (maxDischargeDepth := 8) [go_sem, World.cell?_alloc_past, ltk2, ltk3, ltk4, ltk5, ltk6, ltk7, ltk8, ltk9, *]))
  have cc6_1 : v6.cell? ⟨v1.heap.size, 1, none⟩ = some (.int .i64 a1) := (hb6.cell (p := ⟨v1.heap.size, 1, none⟩) (by first | omega | (simp [ext_size]; try omega))).trans (by (simp (maxDischargeDepth := 8) [go_sem, World.cell?_alloc_past, ltk2, ltk3, ltk4, ltk5, ltk6, ltk7, ltk8, ltk9, *]))
  have cc6_2 : v6.cell? ⟨v2.heap.size, 0, none⟩ = some (.int .i64 bq0) := (hb6.cell (p := ⟨v2.heap.size, 0, none⟩) (by first | omega | (simp [ext_size]; try omega))).trans (by (simp (maxDischargeDepth := 8) [go_sem, World.cell?_alloc_past, ltk2, ltk3, ltk4, ltk5, ltk6, ltk7, ltk8, ltk9, *]))
  have cc6_3 : v6.cell? ⟨v2.heap.size, 1, none⟩ = some (.int .i64 bq1) := (hb6.cell (p := ⟨v2.heap.size, 1, none⟩) (by first | omega | (simp [ext_size]; try omega))).trans (by (simp (maxDischargeDepth := 8) [go_sem, World.cell?_alloc_past, ltk2, ltk3, ltk4, ltk5, ltk6, ltk7, ltk8, ltk9, *]))
  have cc6_4 : v6.cell? ⟨v3.heap.size, 0, none⟩ = some (.int .i64 c0) := (hb6.cell (p := ⟨v3.heap.size, 0, none⟩) (by first | omega | (simp [ext_size]; try omega))).trans (by (simp (maxDischargeDepth := 8) [go_sem, World.cell?_alloc_past, ltk2, ltk3, ltk4, ltk5, ltk6, ltk7, ltk8, ltk9, *]))
  have cc6_5 : v6.cell? ⟨v3.heap.size, 1, none⟩ = some (.int .i64 c1) := (hb6.cell (p := ⟨v3.heap.size, 1, none⟩) (by first | omega | (simp [ext_size]; try omega))).trans (by (simp (maxDischargeDepth := 8) [go_sem, World.cell?_alloc_past, ltk2, ltk3, ltk4, ltk5, ltk6, ltk7, ltk8, ltk9, *]))
  have cc6_6 : v6.cell? ⟨v4.heap.size, 0, none⟩ = some (.int .i64 d0) := (hb6.cell (p := ⟨v4.heap.size, 0, none⟩) (by first | omega | (simp [ext_size]; try omega))).trans (by (simp (maxDischargeDepth := 8) [go_sem, World.cell?_alloc_past, ltk2, ltk3, ltk4, ltk5, ltk6, ltk7, ltk8, ltk9, *]))
  have cc6_7 : v6.cell? ⟨v4.heap.size, 1, none⟩ = some (.int .i64 d1) := (hb6.cell (p := ⟨v4.heap.size, 1, none⟩) (by first | omega | (simp [ext_size]; try omega))).trans (by (simp (maxDischargeDepth := 8) [go_sem, World.cell?_alloc_past, ltk2, ltk3, ltk4, ltk5, ltk6, ltk7, ltk8, ltk9, *]))
  have cc6_8 : v6.cell? ⟨v5.heap.size, 0, none⟩ = some (.int .i64 x0) := (hb6.cell (p := ⟨v5.heap.size, 0, none⟩) (by first | omega | (simp [ext_size]; try omega))).trans (by (simp (maxDischargeDepth := 8) [go_sem, World.cell?_alloc_past, ltk2, ltk3, ltk4, ltk5, ltk6, ltk7, ltk8, ltk9, *]))
  have cc6_9 : v6.cell? ⟨v5.heap.size, 1, none⟩ = some (.int .i64 x1) := (hb6.cell (p := ⟨v5.heap.size, 1, none⟩) (by first | omega | (simp [ext_size]; try omega))).trans (by (simp (maxDischargeDepth := 8) [go_sem, World.cell?_alloc_past, ltk2, ltk3, ltk4, ltk5, ltk6, ltk7, ltk8, ltk9, *]))
  have zl6_0 : v1.heap.size < v6.heap.size := by omega
  have zl6_1 : v2.heap.size < v6.heap.size := by omega
  have zl6_2 : v3.heap.size < v6.heap.size := by omega
  have zl6_3 : v4.heap.size < v6.heap.size := by omega
  have zl6_4 : v5.heap.size < v6.heap.size := by omega
  have hB6 : Below w.heap.size w v6 := Below.trans (by (repeat (first | with_reducible exact hB5 | (with_reducible refine bext ?_ _ _) | (with_reducible refine below_drewN ?_ _) | (with_reducible refine Below.drew ?_) | (with_reducible refine bal ?_ _) | (with_reducible refine bset ?_ (by first | omega | (simp <;> omega)) _)))) (hb6.mono (by first | omega | (simp [ext_size]; try omega)))
  have zw6 := hB6.size
  clear hb6
  clear cc5_0 cc5_1 cc5_2 cc5_3 cc5_4 cc5_5 cc5_6 cc5_7 zl5_0 zl5_1 zl5_2 zl5_3 zz5 zw5 hB5
  clear A1 A2 A3 A4 A5 A6
  go_wp2_with fail
  with_reducible refine (M1 _).mono ?_
  rintro e v7 ⟨rfl, hb7⟩
  have zz7 := hb7.size
  try simp [ext_size] at zz7
  have cc7_0 : v7.cell? ⟨v1.heap.size, 0, none⟩ = some (.int .i64 a0) := (hb7.cell (p := ⟨v1.heap.size, 0, none⟩) (by first | omega | (simp [ext_size]; try omega))).trans (by (simp (maxDischargeDepth := 8) [go_sem, World.cell?_alloc_past, ltk2, ltk3, ltk4, ltk5, ltk6, ltk7, ltk8, ltk9, *]))
  have cc7_1 : v7.cell? ⟨v1.heap.size, 1, none⟩ = some (.int .i64 a1) := (hb7.cell (p := ⟨v1.heap.size, 1, none⟩) (by first | omega | (simp [ext_size]; try omega))).trans (by (simp (maxDischargeDepth := 8) [go_sem, World.cell?_alloc_past, ltk2, ltk3, ltk4, ltk5, ltk6, ltk7, ltk8, ltk9, *]))
  have cc7_2 : v7.cell? ⟨v2.heap.size, 0, none⟩ = some (.int .i64 bq0) := (hb7.cell (p := ⟨v2.heap.size, 0, none⟩) (by first | omega | (simp [ext_size]; try omega))).trans (by (simp (maxDischargeDepth := 8) [go_sem, World.cell?_alloc_past, ltk2, ltk3, ltk4, ltk5, ltk6, ltk7, ltk8, ltk9, *]))
  have cc7_3 : v7.cell? ⟨v2.heap.size, 1, none⟩ = some (.int .i64 bq1) := (hb7.cell (p := ⟨v2.heap.size, 1, none⟩) (by first | omega | (simp [ext_size]; try omega))).trans (by (simp (maxDischargeDepth := 8) [go_sem, World.cell?_alloc_past, ltk2, ltk3, ltk4, ltk5, ltk6, ltk7, ltk8, ltk9, *]))
  have cc7_4 : v7.cell? ⟨v3.heap.size, 0, none⟩ = some (.int .i64 c0) := (hb7.cell (p := ⟨v3.heap.size, 0, none⟩) (by first | omega | (simp [ext_size]; try omega))).trans (by (simp (maxDischargeDepth := 8) [go_sem, World.cell?_alloc_past, ltk2, ltk3, ltk4, ltk5, ltk6, ltk7, ltk8, ltk9, *]))
  have cc7_5 : v7.cell? ⟨v3.heap.size, 1, none⟩ = some (.int .i64 c1) := (hb7.cell (p := ⟨v3.heap.size, 1, none⟩) (by first | omega | (simp [ext_size]; try omega))).trans (by (simp (maxDischargeDepth := 8) [go_sem, World.cell?_alloc_past, ltk2, ltk3, ltk4, ltk5, ltk6, ltk7, ltk8, ltk9, *]))
  have cc7_6 : v7.cell? ⟨v4.heap.size, 0, none⟩ = some (.int .i64 d0) := (hb7.cell (p := ⟨v4.heap.size, 0, none⟩) (by first | omega | (simp [ext_size]; try omega))).trans (by (simp (maxDischargeDepth := 8) [go_sem, World.cell?_alloc_past, ltk2, ltk3, ltk4, ltk5, ltk6, ltk7, ltk8, ltk9, *]))
  have cc7_7 : v7.cell? ⟨v4.heap.size, 1, none⟩ = some (.int .i64 d1) := (hb7.cell (p := ⟨v4.heap.size, 1, none⟩) (by first | omega | (simp [ext_size]; try omega))).trans (by (simp (maxDischargeDepth := 8) [go_sem, World.cell?_alloc_past, ltk2, ltk3, ltk4, ltk5, ltk6, ltk7, ltk8, ltk9, *]))
  have cc7_8 : v7.cell? ⟨v5.heap.size, 0, none⟩ = some (.int .i64 x0) := (hb7.cell (p := ⟨v5.heap.size, 0, none⟩) (by first | omega | (simp [ext_size]; try omega))).trans (by (simp (maxDischargeDepth := 8) [go_sem, World.cell?_alloc_past, ltk2, ltk3, ltk4, ltk5, ltk6, ltk7, ltk8, ltk9, *]))
  have cc7_9 : v7.cell? ⟨v5.heap.size, 1, none⟩ = some (.int .i64 x1) := (hb7.cell (p := ⟨v5.heap.size, 1, none⟩) (by first | omega | (simp [ext_size]; try omega))).trans (by (simp (maxDischargeDepth := 8) [go_sem, World.cell?_alloc_past, ltk2, ltk3, ltk4, ltk5, ltk6, ltk7, ltk8, ltk9, *]))
  have cc7_10 : v7.cell? ⟨v6.heap.size, 0, none⟩ = some (.int .i64 y0) := (hb7.cell (p := ⟨v6.heap.size, 0, none⟩) (by first | omega | (simp [ext_size]; try omega))).trans (by (simp (maxDischargeDepth := 8) [go_sem, World.cell?_alloc_past, ltk2, ltk3, ltk4, ltk5, ltk6, ltk7, ltk8, ltk9, *]))
  have cc7_11 : v7.cell? ⟨v6.heap.size, 1, none⟩ = some (.int .i64 y1) := (hb7.cell (p := ⟨v6.heap.size, 1, none⟩) (by first | omega | (simp [ext_size]; try omega))).trans (by (simp (maxDischargeDepth := 8) [go_sem, World.cell?_alloc_past, ltk2, ltk3, ltk4, ltk5, ltk6, ltk7, ltk8, ltk9, *]))
  have zl7_0 : v1.heap.size < v7.heap.size := by omega
  have zl7_1 : v2.heap.size < v7.heap.size := by omega
  have zl7_2 : v3.heap.size < v7.heap.size := by omega
  have zl7_3 : v4.heap.size < v7.heap.size := by omega
  have zl7_4 : v5.heap.size < v7.heap.size := by omega
  have zl7_5 : v6.heap.size < v7.heap.size := by omega
  have hB7 : Below w.heap.size w v7 := Below.trans (by (repeat (first | with_reducible exact hB6 | (with_reducible refine bext ?_ _ _) | (with_reducible refine below_drewN ?_ _) | (with_reducible refine Below.drew ?_) | (with_reducible refine bal ?_ _) | (with_reducible refine bset ?_ (by first | omega | (simp <;> omega)) _)))) (hb7.mono (by first | omega | (simp [ext_size]; try omega)))
  have zw7 := hB7.size
  clear hb7
  clear cc6_0 cc6_1 cc6_2 cc6_3 cc6_4 cc6_5 cc6_6 cc6_7 cc6_8 cc6_9 zl6_0 zl6_1 zl6_2 zl6_3 zl6_4 zz6 zw6 hB6
  go_wp2_with fail
  with_reducible refine (M2 _).mono ?_
  rintro e v8 ⟨rfl, hb8⟩
  have zz8 := hb8.size
  try simp [ext_size] at zz8
  have cc8_0 : v8.cell? ⟨v1.heap.size, 0, none⟩ = some (.int .i64 a0) := (hb8.cell (p := ⟨v1.heap.size, 0, none⟩) (by first | omega | (simp [ext_size]; try omega))).trans (by (simp (maxDischargeDepth := 8) [go_sem, World.cell?_alloc_past, ltk2, ltk3, ltk4, ltk5, ltk6, ltk7, ltk8, ltk9, *]))
  have cc8_1 : v8.cell? ⟨v1.heap.size, 1, none⟩ = some (.int .i64 a1) := (hb8.cell (p := ⟨v1.heap.size, 1, none⟩) (by first | omega | (simp [ext_size]; try omega))).trans (by (simp (maxDischargeDepth := 8) [go_sem, World.cell?_alloc_past, ltk2, ltk3, ltk4, ltk5, ltk6, ltk7, ltk8, ltk9, *]))
  have cc8_2 : v8.cell? ⟨v2.heap.size, 0, none⟩ = some (.int .i64 bq0) := (hb8.cell (p := ⟨v2.heap.size, 0, none⟩) (by first | omega | (simp [ext_size]; try omega))).trans (by (simp (maxDischargeDepth := 8) [go_sem, World.cell?_alloc_past, ltk2, ltk3, ltk4, ltk5, ltk6, ltk7, ltk8, ltk9, *]))
  have cc8_3 : v8.cell? ⟨v2.heap.size, 1, none⟩ = some (.int .i64 bq1) := (hb8.cell (p := ⟨v2.heap.size, 1, none⟩) (by first | omega | (simp [ext_size]; try omega))).trans (by (simp (maxDischargeDepth := 8) [go_sem, World.cell?_alloc_past, ltk2, ltk3, ltk4, ltk5, ltk6, ltk7, ltk8, ltk9, *]))
  have cc8_4 : v8.cell? ⟨v3.heap.size, 0, none⟩ = some (.int .i64 c0) := (hb8.cell (p := ⟨v3.heap.size, 0, none⟩) (by first | omega | (simp [ext_size]; try omega))).trans (by (simp (maxDischargeDepth := 8) [go_sem, World.cell?_alloc_past, ltk2, ltk3, ltk4, ltk5, ltk6, ltk7, ltk8, ltk9, *]))
  have cc8_5 : v8.cell? ⟨v3.heap.size, 1, none⟩ = some (.int .i64 c1) := (hb8.cell (p := ⟨v3.heap.size, 1, none⟩) (by first | omega | (simp [ext_size]; try omega))).trans (by (simp (maxDischargeDepth := 8) [go_sem, World.cell?_alloc_past, ltk2, ltk3, ltk4, ltk5, ltk6, ltk7, ltk8, ltk9, *]))
  have cc8_6 : v8.cell? ⟨v4.heap.size, 0, none⟩ = some (.int .i64 d0) := (hb8.cell (p := ⟨v4.heap.size, 0, none⟩) (by first | omega | (simp [ext_size]; try omega))).trans (by (simp (maxDischargeDepth := 8) [go_sem, World.cell?_alloc_past, ltk2, ltk3, ltk4, ltk5, ltk6, ltk7, ltk8, ltk9, *]))
  have cc8_7 : v8.cell? ⟨v4.heap.size, 1, none⟩ = some (.int .i64 d1) := (hb8.cell (p := ⟨v4.heap.size, 1, none⟩) (by first | omega | (simp [ext_size]; try omega))).trans (by (simp (maxDischargeDepth := 8) [go_sem, World.cell?_alloc_past, ltk2, ltk3, ltk4, ltk5, ltk6, ltk7, ltk8, ltk9, *]))
  have cc8_8 : v8.cell? ⟨v5.heap.size, 0, none⟩ = some (.int .i64 x0) := (hb8.cell (p := ⟨v5.heap.size, 0, none⟩) (by first | omega | (simp [ext_size]; try omega))).trans (by (simp (maxDischargeDepth := 8) [go_sem, World.cell?_alloc_past, ltk2, ltk3, ltk4, ltk5, ltk6, ltk7, ltk8, ltk9, *]))
  have cc8_9 : v8.cell? ⟨v5.heap.size, 1, none⟩ = some (.int .i64 x1) := (hb8.cell (p := ⟨v5.heap.size, 1, none⟩) (by first | omega | (simp [ext_size]; try omega))).trans (by (simp (maxDischargeDepth := 8) [go_sem, World.cell?_alloc_past, ltk2, ltk3, ltk4, ltk5, ltk6, ltk7, ltk8, ltk9, *]))
  have cc8_10 : v8.cell? ⟨v6.heap.size, 0, none⟩ = some (.int .i64 y0) := (hb8.cell (p := ⟨v6.heap.size, 0, none⟩) (by first | omega | (simp [ext_size]; try omega))).trans (by (simp (maxDischargeDepth := 8) [go_sem, World.cell?_alloc_past, ltk2, ltk3, ltk4, ltk5, ltk6, ltk7, ltk8, ltk9, *]))
  have cc8_11 : v8.cell? ⟨v6.heap.size, 1, none⟩ = some (.int .i64 y1) := (hb8.cell (p := ⟨v6.heap.size, 1, none⟩) (by first | omega | (simp [ext_size]; try omega))).trans (by (simp (maxDischargeDepth := 8) [go_sem, World.cell?_alloc_past, ltk2, ltk3, ltk4, ltk5, ltk6, ltk7, ltk8, ltk9, *]))
  have cc8_12 : v8.cell? ⟨v7.heap.size, 0, none⟩ = some (.int .i64 p0) := (hb8.cell (p := ⟨v7.heap.size, 0, none⟩) (by first | omega | (simp [ext_size]; try omega))).trans (by (simp (maxDischargeDepth := 8) [go_sem, World.cell?_alloc_past, ltk2, ltk3, ltk4, ltk5, ltk6, ltk7, ltk8, ltk9, *]))
  have cc8_13 : v8.cell? ⟨v7.heap.size, 1, none⟩ = some (.int .i64 p1) := (hb8.cell (p := ⟨v7.heap.size, 1, none⟩) (by first | omega | (simp [ext_size]; try omega))).trans (by (simp (maxDischargeDepth := 8) [go_sem, World.cell?_alloc_past, ltk2, ltk3, ltk4, ltk5, ltk6, ltk7, ltk8, ltk9, *]))
  have zl8_0 : v1.heap.size < v8.heap.size := by omega
  have zl8_1 : v2.heap.size < v8.heap.size := by omega
  have zl8_2 : v3.heap.size < v8.heap.size := by omega
  have zl8_3 : v4.heap.size < v8.heap.size := by omega
  have zl8_4 : v5.heap.size < v8.heap.size := by omega
  have zl8_5 : v6.heap.size < v8.heap.size := by omega
  have zl8_6 : v7.heap.size < v8.heap.size := by omega
  have hB8 : Below w.heap.size w v8 := Below.trans (by (repeat (first | with_reducible exact hB7 | (with_reducible refine bext ?_ _ _) | (with_reducible refine below_drewN ?_ _) | (with_reducible refine Below.drew ?_) | (with_reducible refine bal ?_ _) | (with_reducible refine bset ?_ (by first | omega | (simp <;> omega)) _)))) (hb8.mono (by first | omega | (simp [ext_size]; try omega)))
  have zw8 := hB8.size
  clear hb8
  clear cc7_0 cc7_1 cc7_2 cc7_3 cc7_4 cc7_5 cc7_6 cc7_7 cc7_8 cc7_9 cc7_10 cc7_11 zl7_0 zl7_1 zl7_2 zl7_3 zl7_4 zl7_5 zz7 zw7 hB7
  go_wp2_with fail
  with_reducible refine (M3 _).mono ?_
  rintro e v9 ⟨rfl, hb9⟩
  have zz9 := hb9.size
  try simp [ext_size] at zz9
  have cc9_0 : v9.cell? ⟨v1.heap.size, 0, none⟩ = some (.int .i64 a0) := (hb9.cell (p := ⟨v1.heap.size, 0, none⟩) (by first | omega | (simp [ext_size]; try omega))).trans (by (simp (maxDischargeDepth := 8) [go_sem, World.cell?_alloc_past, ltk2, ltk3, ltk4, ltk5, ltk6, ltk7, ltk8, ltk9, *]))
  have cc9_1 : v9.cell? ⟨v1.heap.size, 1, none⟩ = some (.int .i64 a1) := (hb9.cell (p := ⟨v1.heap.size, 1, none⟩) (by first | omega | (simp [ext_size]; try omega))).trans (by (simp (maxDischargeDepth := 8) [go_sem, World.cell?_alloc_past, ltk2, ltk3, ltk4, ltk5, ltk6, ltk7, ltk8, ltk9, *]))
  have cc9_2 : v9.cell? ⟨v2.heap.size, 0, none⟩ = some (.int .i64 bq0) := (hb9.cell (p := ⟨v2.heap.size, 0, none⟩) (by first | omega | (simp [ext_size]; try omega))).trans (by (simp (maxDischargeDepth := 8) [go_sem, World.cell?_alloc_past, ltk2, ltk3, ltk4, ltk5, ltk6, ltk7, ltk8, ltk9, *]))
  have cc9_3 : v9.cell? ⟨v2.heap.size, 1, none⟩ = some (.int .i64 bq1) := (hb9.cell (p := ⟨v2.heap.size, 1, none⟩) (by first | omega | (simp [ext_size]; try omega))).trans (by (simp (maxDischargeDepth := 8) [go_sem, World.cell?_alloc_past, ltk2, ltk3, ltk4, ltk5, ltk6, ltk7, ltk8, ltk9, *]))
  have cc9_4 : v9.cell? ⟨v3.heap.size, 0, none⟩ = some (.int .i64 c0) := (hb9.cell (p := ⟨v3.heap.size, 0, none⟩) (by first | omega | (simp [ext_size]; try omega))).trans (by (simp (maxDischargeDepth := 8) [go_sem, World.cell?_alloc_past, ltk2, ltk3, ltk4, ltk5, ltk6, ltk7, ltk8, ltk9, *]))
  have cc9_5 : v9.cell? ⟨v3.heap.size, 1, none⟩ = some (.int .i64 c1) := (hb9.cell (p := ⟨v3.heap.size, 1, none⟩) (by first | omega | (simp [ext_size]; try omega))).trans (by (simp (maxDischargeDepth := 8) [go_sem, World.cell?_alloc_past, ltk2, ltk3, ltk4, ltk5, ltk6, ltk7, ltk8, ltk9, *]))
  have cc9_6 : v9.cell? ⟨v4.heap.size, 0, none⟩ = some (.int .i64 d0) := (hb9.cell (p := ⟨v4.heap.size, 0, none⟩) (by first | omega | (simp [ext_size]; try omega))).trans (by (simp (maxDischargeDepth := 8) [go_sem, World.cell?_alloc_past, ltk2, ltk3, ltk4, ltk5, ltk6, ltk7, ltk8, ltk9, *]))
  have cc9_7 : v9.cell? ⟨v4.heap.size, 1, none⟩ = some (.int .i64 d1) := (hb9.cell (p := ⟨v4.heap.size, 1, none⟩) (by first | omega | (simp [ext_size]; try omega))).trans (by (simp (maxDischargeDepth := 8) [go_sem, World.cell?_alloc_past, ltk2, ltk3, ltk4, ltk5, ltk6, ltk7, ltk8, ltk9, *]))
  have cc9_8 : v9.cell? ⟨v5.heap.size, 0, none⟩ = some (.int .i64 x0) := (hb9.cell (p := ⟨v5.heap.size, 0, none⟩) (by first | omega | (simp [ext_size]; try omega))).trans (by (simp (maxDischargeDepth := 8) [go_sem, World.cell?_alloc_past, ltk2, ltk3, ltk4, ltk5, ltk6, ltk7, ltk8, ltk9, *]))
  have cc9_9 : v9.cell? ⟨v5.heap.size, 1, none⟩ = some (.int .i64 x1) := (hb9.cell (p := ⟨v5.heap.size, 1, none⟩) (by first | omega | (simp [ext_size]; try omega))).trans (by (simp (maxDischargeDepth := 8) [go_sem, World.cell?_alloc_past, ltk2, ltk3, ltk4, ltk5, ltk6, ltk7, ltk8, ltk9, *]))
  have cc9_10 : v9.cell? ⟨v6.heap.size, 0, none⟩ = some (.int .i64 y0) := (hb9.cell (p := ⟨v6.heap.size, 0, none⟩) (by first | omega | (simp [ext_size]; try omega))).trans (by (simp (maxDischargeDepth := 8) [go_sem, World.cell?_alloc_past, ltk2, ltk3, ltk4, ltk5, ltk6, ltk7, ltk8, ltk9, *]))
  have cc9_11 : v9.cell? ⟨v6.heap.size, 1, none⟩ = some (.int .i64 y1) := (hb9.cell (p := ⟨v6.heap.size, 1, none⟩) (by first | omega | (simp [ext_size]; try omega))).trans (by (simp (maxDischargeDepth := 8) [go_sem, World.cell?_alloc_past, ltk2, ltk3, ltk4, ltk5, ltk6, ltk7, ltk8, ltk9, *]))
  have cc9_12 : v9.cell? ⟨v7.heap.size, 0, none⟩ = some (.int .i64 p0) := (hb9.cell (p := ⟨v7.heap.size, 0, none⟩) (by first | omega | (simp [ext_size]; try omega))).trans (by (simp (maxDischargeDepth := 8) [go_sem, World.cell?_alloc_past, ltk2, ltk3, ltk4, ltk5, ltk6, ltk7, ltk8, ltk9, *]))
  have cc9_13 : v9.cell? ⟨v7.heap.size, 1, none⟩ = some (.int .i64 p1) := (hb9.cell (p := ⟨v7.heap.size, 1, none⟩) (by first | omega | (simp [ext_size]; try omega))).trans (by (simp (maxDischargeDepth := 8) [go_sem, World.cell?_alloc_past, ltk2, ltk3, ltk4, ltk5, ltk6, ltk7, ltk8, ltk9, *]))
  have cc9_14 : v9.cell? ⟨v8.heap.size, 0, none⟩ = some (.int .i64 q0) := (hb9.cell (p := ⟨v8.heap.size, 0, none⟩) (by first | omega | (simp [ext_size]; try omega))).trans (by (simp (maxDischargeDepth := 8) [go_sem, World.cell?_alloc_past, ltk2, ltk3, ltk4, ltk5, ltk6, ltk7, ltk8, ltk9, *]))
  have cc9_15 : v9.cell? ⟨v8.heap.size, 1, none⟩ = some (.int .i64 q1) := (hb9.cell (p := ⟨v8.heap.size, 1, none⟩) (by first | omega | (simp [ext_size]; try omega))).trans (by (simp (maxDischargeDepth := 8) [go_sem, World.cell?_alloc_past, ltk2, ltk3, ltk4, ltk5, ltk6, ltk7, ltk8, ltk9, *]))
  have zl9_0 : v1.heap.size < v9.heap.size := by omega
  have zl9_1 : v2.heap.size < v9.heap.size := by omega
  have zl9_2 : v3.heap.size < v9.heap.size := by omega
  have zl9_3 : v4.heap.size < v9.heap.size := by omega
  have zl9_4 : v5.heap.size < v9.heap.size := by omega
  have zl9_5 : v6.heap.size < v9.heap.size := by omega
  have zl9_6 : v7.heap.size < v9.heap.size := by omega
  have zl9_7 : v8.heap.size < v9.heap.size := by omega
  have hB9 : Below w.heap.size w v9 := Below.trans (by (repeat (first | with_reducible exact hB8 | (with_reducible refine bext ?_ _ _) | (with_reducible refine below_drewN ?_ _) | (with_reducible refine Below.drew ?_) | (with_reducible refine bal ?_ _) | (with_reducible refine bset ?_ (by first | omega | (simp <;> omega)) _)))) (hb9.mono (by first | omega | (simp [ext_size]; try omega)))
  have zw9 := hB9.size
  clear hb9
  clear cc8_0 cc8_1 cc8_2 cc8_3 cc8_4 cc8_5 cc8_6 cc8_7 cc8_8 cc8_9 cc8_10 cc8_11 cc8_12 cc8_13 zl8_0 zl8_1 zl8_2 zl8_3 zl8_4 zl8_5 zl8_6 zz8 zw8 hB8
  go_wp2_with fail
  with_reducible refine (M4 _).mono ?_
  rintro e v10 ⟨rfl, hb10⟩
  have zz10 := hb10.size
  try simp [ext_size] at zz10
  have cc10_0 : v10.cell? ⟨v1.heap.size, 0, none⟩ = some (.int .i64 a0) := (hb10.cell (p := ⟨v1.heap.size, 0, none⟩) (by first | omega | (simp [ext_size]; try omega))).trans (by (simp (maxDischargeDepth := 8) [go_sem, World.cell?_alloc_past, ltk2, ltk3, ltk4, ltk5, ltk6, ltk7, ltk8, ltk9, *]))
  have cc10_1 : v10.cell? ⟨v1.heap.size, 1, none⟩ = some (.int .i64 a1) := (hb10.cell (p := ⟨v1.heap.size, 1, none⟩) (by first | omega | (simp [ext_size]; try omega))).trans (by (simp (maxDischargeDepth := 8) [go_sem, World.cell?_alloc_past, ltk2, ltk3, ltk4, ltk5, ltk6, ltk7, ltk8, ltk9, *]))
  have cc10_2 : v10.cell? ⟨v2.heap.size, 0, none⟩ = some (.int .i64 bq0) := (hb10.cell (p := ⟨v2.heap.size, 0, none⟩) (by first | omega | (simp [ext_size]; try omega))).trans (by (simp (maxDischargeDepth := 8) [go_sem, World.cell?_alloc_past, ltk2, ltk3, ltk4, ltk5, ltk6, ltk7, ltk8, ltk9, *]))
  have cc10_3 : v10.cell? ⟨v2.heap.size, 1, none⟩ = some (.int .i64 bq1) := (hb10.cell (p := ⟨v2.heap.size, 1, none⟩) (by first | omega | (simp [ext_size]; try omega))).trans (by (simp (maxDischargeDepth := 8) [go_sem, World.cell?_alloc_past, ltk2, ltk3, ltk4, ltk5, ltk6, ltk7, ltk8, ltk9, *]))
  have cc10_4 : v10.cell? ⟨v3.heap.size, 0, none⟩ = some (.int .i64 c0) := (hb10.cell (p := ⟨v3.heap.size, 0, none⟩) (by first | omega | (simp [ext_size]; try omega))).trans (by (simp (maxDischargeDepth := 8) [go_sem, World.cell?_alloc_past, ltk2, ltk3, ltk4, ltk5, ltk6, ltk7, ltk8, ltk9, *]))
  have cc10_5 : v10.cell? ⟨v3.heap.size, 1, none⟩ = some (.int .i64 c1) := (hb10.cell (p := ⟨v3.heap.size, 1, none⟩) (by first | omega | (simp [ext_size]; try omega))).trans (by (simp (maxDischargeDepth := 8) [go_sem, World.cell?_alloc_past, ltk2, ltk3, ltk4, ltk5, ltk6, ltk7, ltk8, ltk9, *]))
  have cc10_6 : v10.cell? ⟨v4.heap.size, 0, none⟩ = some (.int .i64 d0) := (hb10.cell (p := ⟨v4.heap.size, 0, none⟩) (by first | omega | (simp [ext_size]; try omega))).trans (by (simp (maxDischargeDepth := 8) [go_sem, World.cell?_alloc_past, ltk2, ltk3, ltk4, ltk5, ltk6, ltk7, ltk8, ltk9, *]))
  have cc10_7 : v10.cell? ⟨v4.heap.size, 1, none⟩ = some (.int .i64 d1) := (hb10.cell (p := ⟨v4.heap.size, 1, none⟩) (by first | omega | (simp [ext_size]; try omega))).trans (by (simp (maxDischargeDepth := 8) [go_sem, World.cell?_alloc_past, ltk2, ltk3, ltk4, ltk5, ltk6, ltk7, ltk8, ltk9, *]))
  have cc10_8 : v10.cell? ⟨v5.heap.size, 0, none⟩ = some (.int .i64 x0) := (hb10.cell (p := ⟨v5.heap.size, 0, none⟩) (by first | omega | (simp [ext_size]; try omega))).trans (by (simp (maxDischargeDepth := 8) [go_sem, World.cell?_alloc_past, ltk2, ltk3, ltk4, ltk5, ltk6, ltk7, ltk8, ltk9, *]))
  have cc10_9 : v10.cell? ⟨v5.heap.size, 1, none⟩ = some (.int .i64 x1) := (hb10.cell (p := ⟨v5.heap.size, 1, none⟩) (by first | omega | (simp [ext_size]; try omega))).trans (by (simp (maxDischargeDepth := 8) [go_sem, World.cell?_alloc_past, ltk2, ltk3, ltk4, ltk5, ltk6, ltk7, ltk8, ltk9, *]))
  have cc10_10 : v10.cell? ⟨v6.heap.size, 0, none⟩ = some (.int .i64 y0) := (hb10.cell (p := ⟨v6.heap.size, 0, none⟩) (by first | omega | (simp [ext_size]; try omega))).trans (by (simp (maxDischargeDepth := 8) [go_sem, World.cell?_alloc_past, ltk2, ltk3, ltk4, ltk5, ltk6, ltk7, ltk8, ltk9, *]))
  have cc10_11 : v10.cell? ⟨v6.heap.size, 1, none⟩ = some (.int .i64 y1) := (hb10.cell (p := ⟨v6.heap.size, 1, none⟩) (by first | omega | (simp [ext_size]; try omega))).trans (by (simp (maxDischargeDepth := 8) [go_sem, World.cell?_alloc_past, ltk2, ltk3, ltk4, ltk5, ltk6, ltk7, ltk8, ltk9, *]))
  have cc10_12 : v10.cell? ⟨v7.heap.size, 0, none⟩ = some (.int .i64 p0) := (hb10.cell (p := ⟨v7.heap.size, 0, none⟩) (by first | omega | (simp [ext_size]; try omega))).trans (by (simp (maxDischargeDepth := 8) [go_sem, World.cell?_alloc_past, ltk2, ltk3, ltk4, ltk5, ltk6, ltk7, ltk8, ltk9, *]))
  have cc10_13 : v10.cell? ⟨v7.heap.size, 1, none⟩ = some (.int .i64 p1) := (hb10.cell (p := ⟨v7.heap.size, 1, none⟩) (by first | omega | (simp [ext_size]; try omega))).trans (by (simp (maxDischargeDepth := 8) [go_sem, World.cell?_alloc_past, ltk2, ltk3, ltk4, ltk5, ltk6, ltk7, ltk8, ltk9, *]))
  have cc10_14 : v10.cell? ⟨v8.heap.size, 0, none⟩ = some (.int .i64 q0) := (hb10.cell (p := ⟨v8.heap.size, 0, none⟩) (by first | omega | (simp [ext_size]; try omega))).trans (by (simp (maxDischargeDepth := 8) [go_sem, World.cell?_alloc_past, ltk2, ltk3, ltk4, ltk5, ltk6, ltk7, ltk8, ltk9, *]))
  have cc10_15 : v10.cell? ⟨v8.heap.size, 1, none⟩ = some (.int .i64 q1) := (hb10.cell (p := ⟨v8.heap.size, 1, none⟩) (by first | omega | (simp [ext_size]; try omega))).trans (by (simp (maxDischargeDepth := 8) [go_sem, World.cell?_alloc_past, ltk2, ltk3, ltk4, ltk5, ltk6, ltk7, ltk8, ltk9, *]))
  have cc10_16 : v10.cell? ⟨v9.heap.size, 0, none⟩ = some (.int .i64 r0) := (hb10.cell (p := ⟨v9.heap.size, 0, none⟩) (by first | omega | (simp [ext_size]; try omega))).trans (by (simp (maxDischargeDepth := 8) [go_sem, World.cell?_alloc_past, ltk2, ltk3, ltk4, ltk5, ltk6, ltk7, ltk8, ltk9, *]))
  have cc10_17 : v10.cell? ⟨v9.heap.size, 1, none⟩ = some (.int .i64 r1) := (hb10.cell (p := ⟨v9.heap.size, 1, none⟩) (by first | omega | (simp [ext_size]; try omega))).trans (by (simp (maxDischargeDepth := 8) [go_sem, World.cell?_alloc_past, ltk2, ltk3, ltk4, ltk5, ltk6, ltk7, ltk8, ltk9, *]))
  have zl10_0 : v1.heap.size < v10.heap.size := by omega
  have zl10_1 : v2.heap.size < v10.heap.size := by omega
  have zl10_2 : v3.heap.size < v10.heap.size := by omega
  have zl10_3 : v4.heap.size < v10.heap.size := by omega
  have zl10_4 : v5.heap.size < v10.heap.size := by omega
  have zl10_5 : v6.heap.size < v10.heap.size := by omega
  have zl10_6 : v7.heap.size < v10.heap.size := by omega
  have zl10_7 : v8.heap.size < v10.heap.size := by omega
  have zl10_8 : v9.heap.size < v10.heap.size := by omega
  have hB10 : Below w.heap.size w v10 := Below.trans (by (repeat (first | with_reducible exact hB9 | (with_reducible refine bext ?_ _ _) | (with_reducible refine below_drewN ?_ _) | (with_reducible refine Below.drew ?_) | (with_reducible refine bal ?_ _) | (with_reducible refine bset ?_ (by first | omega | (simp <;> omega)) _)))) (hb10.mono (by first | omega | (simp [ext_size]; try omega)))
  have zw10 := hB10.size
  clear hb10
  clear cc9_0 cc9_1 cc9_2 cc9_3 cc9_4 cc9_5 cc9_6 cc9_7 cc9_8 cc9_9 cc9_10 cc9_11 cc9_12 cc9_13 cc9_14 cc9_15 zl9_0 zl9_1 zl9_2 zl9_3 zl9_4 zl9_5 zl9_6 zl9_7 zz9 zw9 hB9
  go_wp2_with fail
  with_reducible refine (B1 _).mono ?_
  rintro e v11 ⟨rfl, hb11⟩
  have zz11 := hb11.size
  try simp [ext_size] at zz11
  have cc11_0 : v11.cell? ⟨v1.heap.size, 0, none⟩ = some (.int .i64 a0) := (hb11.cell (p := ⟨v1.heap.size, 0, none⟩) (by first | omega | (simp [ext_size]; try omega))).trans (by (simp (maxDischargeDepth := 8) [go_sem, World.cell?_alloc_past, ltk2, ltk3, ltk4, ltk5, ltk6, ltk7, ltk8, ltk9, *]))
  have cc11_1 : v11.cell? ⟨v1.heap.size, 1, none⟩ = some (.int .i64 a1) := (hb11.cell (p := ⟨v1.heap.size, 1, none⟩) (by first | omega | (simp [ext_size]; try omega))).trans (by (simp (maxDischargeDepth := 8) [go_sem, World.cell?_alloc_past, ltk2, ltk3, ltk4, ltk5, ltk6, ltk7, ltk8, ltk9, *]))
  have cc11_2 : v11.cell? ⟨v5.heap.size, 0, none⟩ = some (.int .i64 x0) := (hb11.cell (p := ⟨v5.heap.size, 0, none⟩) (by first | omega | (simp [ext_size]; try omega))).trans (by (simp (maxDischargeDepth := 8) [go_sem, World.cell?_alloc_past, ltk2, ltk3, ltk4, ltk5, ltk6, ltk7, ltk8, ltk9, *]))
  have cc11_3 : v11.cell? ⟨v5.heap.size, 1, none⟩ = some (.int .i64 x1) := (hb11.cell (p := ⟨v5.heap.size, 1, none⟩) (by first | omega | (simp [ext_size]; try omega))).trans (by (simp (maxDischargeDepth := 8) [go_sem, World.cell?_alloc_past, ltk2, ltk3, ltk4, ltk5, ltk6, ltk7, ltk8, ltk9, *]))
  have cc11_4 : v11.cell? ⟨v6.heap.size, 0, none⟩ = some (.int .i64 y0) := (hb11.cell (p := ⟨v6.heap.size, 0, none⟩) (by first | omega | (simp [ext_size]; try omega))).trans (by (simp (maxDischargeDepth := 8) [go_sem, World.cell?_alloc_past, ltk2, ltk3, ltk4, ltk5, ltk6, ltk7, ltk8, ltk9, *]))
  have cc11_5 : v11.cell? ⟨v6.heap.size, 1, none⟩ = some (.int .i64 y1) := (hb11.cell (p := ⟨v6.heap.size, 1, none⟩) (by first | omega | (simp [ext_size]; try omega))).trans (by (simp (maxDischargeDepth := 8) [go_sem, World.cell?_alloc_past, ltk2, ltk3, ltk4, ltk5, ltk6, ltk7, ltk8, ltk9, *]))
  have cc11_6 : v11.cell? ⟨v7.heap.size, 0, none⟩ = some (.int .i64 p0) := (hb11.cell (p := ⟨v7.heap.size, 0, none⟩) (by first | omega | (simp [ext_size]; try omega))).trans (by (simp (maxDischargeDepth := 8) [go_sem, World.cell?_alloc_past, ltk2, ltk3, ltk4, ltk5, ltk6, ltk7, ltk8, ltk9, *]))
  have cc11_7 : v11.cell? ⟨v7.heap.size, 1, none⟩ = some (.int .i64 p1) := (hb11.cell (p := ⟨v7.heap.size, 1, none⟩) (by first | omega | (simp [ext_size]; try omega))).trans (by (simp (maxDischargeDepth := 8) [go_sem, World.cell?_alloc_past, ltk2, ltk3, ltk4, ltk5, ltk6, ltk7, ltk8, ltk9, *]))
  have cc11_8 : v11.cell? ⟨v8.heap.size, 0, none⟩ = some (.int .i64 q0) := (hb11.cell (p := ⟨v8.heap.size, 0, none⟩) (by first | omega | (simp [ext_size]; try omega))).trans (by (simp (maxDischargeDepth := 8) [go_sem, World.cell?_alloc_past, ltk2, ltk3, ltk4, ltk5, ltk6, ltk7, ltk8, ltk9, *]))
  have cc11_9 : v11.cell? ⟨v8.heap.size, 1, none⟩ = some (.int .i64 q1) := (hb11.cell (p := ⟨v8.heap.size, 1, none⟩) (by first | omega | (simp [ext_size]; try omega))).trans (by (simp (maxDischargeDepth := 8) [go_sem, World.cell?_alloc_past, ltk2, ltk3, ltk4, ltk5, ltk6, ltk7, ltk8, ltk9, *]))
  have cc11_10 : v11.cell? ⟨v9.heap.size, 0, none⟩ = some (.int .i64 r0) := (hb11.cell (p := ⟨v9.heap.size, 0, none⟩) (by first | omega | (simp [ext_size]; try omega))).trans (by (simp (maxDischargeDepth := 8) [go_sem, World.cell?_alloc_past, ltk2, ltk3, ltk4, ltk5, ltk6, ltk7, ltk8, ltk9, *]))
  have cc11_11 : v11.cell? ⟨v9.heap.size, 1, none⟩ = some (.int .i64 r1) := (hb11.cell (p := ⟨v9.heap.size, 1, none⟩) (by first | omega | (simp [ext_size]; try omega))).trans (by (simp (maxDischargeDepth := 8) [go_sem, World.cell?_alloc_past, ltk2, ltk3, ltk4, ltk5, ltk6, ltk7, ltk8, ltk9, *]))
  have cc11_12 : v11.cell? ⟨v10.heap.size, 0, none⟩ = some (.int .i64 s0) := (hb11.cell (p := ⟨v10.heap.size, 0, none⟩) (by first | omega | (simp [ext_size]; try omega))).trans (by (simp (maxDischargeDepth := 8) [go_sem, World.cell?_alloc_past, ltk2, ltk3, ltk4, ltk5, ltk6, ltk7, ltk8, ltk9, *]))
  have cc11_13 : v11.cell? ⟨v10.heap.size, 1, none⟩ = some (.int .i64 sz) := (hb11.cell (p := ⟨v10.heap.size, 1, none⟩) (by first | omega | (simp [ext_size]; try omega))).trans (by (simp (maxDischargeDepth := 8) [go_sem, World.cell?_alloc_past, ltk2, ltk3, ltk4, ltk5, ltk6, ltk7, ltk8, ltk9, *]))
  have zl11_0 : v1.heap.size < v11.heap.size := by omega
  have zl11_1 : v5.heap.size < v11.heap.size := by omega
  have zl11_2 : v6.heap.size < v11.heap.size := by omega
  have zl11_3 : v7.heap.size < v11.heap.size := by omega
  have zl11_4 : v8.heap.size < v11.heap.size := by omega
  have zl11_5 : v9.heap.size < v11.heap.size := by omega
  have zl11_6 : v10.heap.size < v11.heap.size := by omega
  have hB11 : Below w.heap.size w v11 := Below.trans (by (repeat (first | with_reducible exact hB10 | (with_reducible refine bext ?_ _ _) | (with_reducible refine below_drewN ?_ _) | (with_reducible refine Below.drew ?_) | (with_reducible refine bal ?_ _) | (with_reducible refine bset ?_ (by first | omega | (simp <;> omega)) _)))) (hb11.mono (by first | omega | (simp [ext_size]; try omega)))
  have zw11 := hB11.size
  clear hb11
  clear cc10_0 cc10_1 cc10_2 cc10_3 cc10_4 cc10_5 cc10_6 cc10_7 cc10_8 cc10_9 cc10_10 cc10_11 cc10_12 cc10_13 cc10_14 cc10_15 cc10_16 cc10_17 zl10_0 zl10_1 zl10_2 zl10_3 zl10_4 zl10_5 zl10_6 zl10_7 zl10_8 zz10 zw10 hB10
  go_wp2_with fail
  with_reducible refine (B2 _).mono ?_
  rintro e v12 ⟨rfl, hb12⟩
  have zz12 := hb12.size
  try simp [ext_size] at zz12
  have cc12_0 : v12.cell? ⟨v1.heap.size, 0, none⟩ = some (.int .i64 a0) := (hb12.cell (p := ⟨v1.heap.size, 0, none⟩) (by first | omega | (simp [ext_size]; try omega))).trans (by (simp (maxDischargeDepth := 8) [go_sem, World.cell?_alloc_past, ltk2, ltk3, ltk4, ltk5, ltk6, ltk7, ltk8, ltk9, *]))
  have cc12_1 : v12.cell? ⟨v1.heap.size, 1, none⟩ = some (.int .i64 a1) := (hb12.cell (p := ⟨v1.heap.size, 1, none⟩) (by first | omega | (simp [ext_size]; try omega))).trans (by (simp (maxDischargeDepth := 8) [go_sem, World.cell?_alloc_past, ltk2, ltk3, ltk4, ltk5, ltk6, ltk7, ltk8, ltk9, *]))
  have cc12_2 : v12.cell? ⟨v5.heap.size, 0, none⟩ = some (.int .i64 x0) := (hb12.cell (p := ⟨v5.heap.size, 0, none⟩) (by first | omega | (simp [ext_size]; try omega))).trans (by (simp (maxDischargeDepth := 8) [go_sem, World.cell?_alloc_past, ltk2, ltk3, ltk4, ltk5, ltk6, ltk7, ltk8, ltk9, *]))
  have cc12_3 : v12.cell? ⟨v5.heap.size, 1, none⟩ = some (.int .i64 x1) := (hb12.cell (p := ⟨v5.heap.size, 1, none⟩) (by first | omega | (simp [ext_size]; try omega))).trans (by (simp (maxDischargeDepth := 8) [go_sem, World.cell?_alloc_past, ltk2, ltk3, ltk4, ltk5, ltk6, ltk7, ltk8, ltk9, *]))
  have cc12_4 : v12.cell? ⟨v6.heap.size, 0, none⟩ = some (.int .i64 y0) := (hb12.cell (p := ⟨v6.heap.size, 0, none⟩) (by first | omega | (simp [ext_size]; try omega))).trans (by (simp (maxDischargeDepth := 8) [go_sem, World.cell?_alloc_past, ltk2, ltk3, ltk4, ltk5, ltk6, ltk7, ltk8, ltk9, *]))
  have cc12_5 : v12.cell? ⟨v6.heap.size, 1, none⟩ = some (.int .i64 y1) := (hb12.cell (p := ⟨v6.heap.size, 1, none⟩) (by first | omega | (simp [ext_size]; try omega))).trans (by (simp (maxDischargeDepth := 8) [go_sem, World.cell?_alloc_past, ltk2, ltk3, ltk4, ltk5, ltk6, ltk7, ltk8, ltk9, *]))
  have cc12_6 : v12.cell? ⟨v9.heap.size, 0, none⟩ = some (.int .i64 r0) := (hb12.cell (p := ⟨v9.heap.size, 0, none⟩) (by first | omega | (simp [ext_size]; try omega))).trans (by (simp (maxDischargeDepth := 8) [go_sem, World.cell?_alloc_past, ltk2, ltk3, ltk4, ltk5, ltk6, ltk7, ltk8, ltk9, *]))
  have cc12_7 : v12.cell? ⟨v9.heap.size, 1, none⟩ = some (.int .i64 r1) := (hb12.cell (p := ⟨v9.heap.size, 1, none⟩) (by first | omega | (simp [ext_size]; try omega))).trans (by (simp (maxDischargeDepth := 8) [go_sem, World.cell?_alloc_past, ltk2, ltk3, ltk4, ltk5, ltk6, ltk7, ltk8, ltk9, *]))
  have cc12_8 : v12.cell? ⟨v10.heap.size, 0, none⟩ = some (.int .i64 s0) := (hb12.cell (p := ⟨v10.heap.size, 0, none⟩) (by first | omega | (simp [ext_size]; try omega))).trans (by (simp (maxDischargeDepth := 8) [go_sem, World.cell?_alloc_past, ltk2, ltk3, ltk4, ltk5, ltk6, ltk7, ltk8, ltk9, *]))
  have cc12_9 : v12.cell? ⟨v10.heap.size, 1, none⟩ = some (.int .i64 sz) := (hb12.cell (p := ⟨v10.heap.size, 1, none⟩) (by first | omega | (simp [ext_size]; try omega))).trans (by (simp (maxDischargeDepth := 8) [go_sem, World.cell?_alloc_past, ltk2, ltk3, ltk4, ltk5, ltk6, ltk7, ltk8, ltk9, *]))
  have cc12_10 : v12.cell? ⟨v11.heap.size, 0, none⟩ = some (.int .i64 U0) := (hb12.cell (p := ⟨v11.heap.size, 0, none⟩) (by first | omega | (simp [ext_size]; try omega))).trans (by (simp (maxDischargeDepth := 8) [go_sem, World.cell?_alloc_past, ltk2, ltk3, ltk4, ltk5, ltk6, ltk7, ltk8, ltk9, *]))
  have cc12_11 : v12.cell? ⟨v11.heap.size, 1, none⟩ = some (.int .i64 U1) := (hb12.cell (p := ⟨v11.heap.size, 1, none⟩) (by first | omega | (simp [ext_size]; try omega))).trans (by (simp (maxDischargeDepth := 8) [go_sem, World.cell?_alloc_past, ltk2, ltk3, ltk4, ltk5, ltk6, ltk7, ltk8, ltk9, *]))
  have zl12_0 : v1.heap.size < v12.heap.size := by omega
  have zl12_1 : v5.heap.size < v12.heap.size := by omega
  have zl12_2 : v6.heap.size < v12.heap.size := by omega
  have zl12_3 : v9.heap.size < v12.heap.size := by omega
  have zl12_4 : v10.heap.size < v12.heap.size := by omega
  have zl12_5 : v11.heap.size < v12.heap.size := by omega
  have hB12 : Below w.heap.size w v12 := Below.trans (by (repeat (first | with_reducible exact hB11 | (with_reducible refine bext ?_ _ _) | (with_reducible refine below_drewN ?_ _) | (with_reducible refine Below.drew ?_) | (with_reducible refine bal ?_ _) | (with_reducible refine bset ?_ (by first | omega | (simp <;> omega)) _)))) (hb12.mono (by first | omega | (simp [ext_size]; try omega)))
  have zw12 := hB12.size
  clear hb12
  clear cc11_0 cc11_1 cc11_2 cc11_3 cc11_4 cc11_5 cc11_6 cc11_7 cc11_8 cc11_9 cc11_10 cc11_11 cc11_12 cc11_13 zl11_0 zl11_1 zl11_2 zl11_3 zl11_4 zl11_5 zl11_6 zz11 zw11 hB11
  clear M1 M2 M3 M4 B1 B2
  go_wp2_with fail
  with_reducible refine (C1 _).mono ?_
  rintro e v13 ⟨rfl, hb13⟩
  have zz13 := hb13.size
  try simp [ext_size] at zz13
  have cc13_0 : v13.cell? ⟨v1.heap.size, 0, none⟩ = some (.int .i64 a0) := (hb13.cell (p := ⟨v1.heap.size, 0, none⟩) (by first | omega | (simp [ext_size]; try omega))).trans (by (simp (maxDischargeDepth := 8) [go_sem, World.cell?_alloc_past, ltk2, ltk3, ltk4, ltk5, ltk6, ltk7, ltk8, ltk9, *]))
  have cc13_1 : v13.cell? ⟨v1.heap.size, 1, none⟩ = some (.int .i64 a1) := (hb13.cell (p := ⟨v1.heap.size, 1, none⟩) (by first | omega | (simp [ext_size]; try omega))).trans (by (simp (maxDischargeDepth := 8) [go_sem, World.cell?_alloc_past, ltk2, ltk3, ltk4, ltk5, ltk6, ltk7, ltk8, ltk9, *]))
  have cc13_2 : v13.cell? ⟨v5.heap.size, 0, none⟩ = some (.int .i64 x0) := (hb13.cell (p := ⟨v5.heap.size, 0, none⟩) (by first | omega | (simp [ext_size]; try omega))).trans (by (simp (maxDischargeDepth := 8) [go_sem, World.cell?_alloc_past, ltk2, ltk3, ltk4, ltk5, ltk6, ltk7, ltk8, ltk9, *]))
  have cc13_3 : v13.cell? ⟨v5.heap.size, 1, none⟩ = some (.int .i64 x1) := (hb13.cell (p := ⟨v5.heap.size, 1, none⟩) (by first | omega | (simp [ext_size]; try omega))).trans (by (simp (maxDischargeDepth := 8) [go_sem, World.cell?_alloc_past, ltk2, ltk3, ltk4, ltk5, ltk6, ltk7, ltk8, ltk9, *]))
  have cc13_4 : v13.cell? ⟨v6.heap.size, 0, none⟩ = some (.int .i64 y0) := (hb13.cell (p := ⟨v6.heap.size, 0, none⟩) (by first | omega | (simp [ext_size]; try omega))).trans (by (simp (maxDischargeDepth := 8) [go_sem, World.cell?_alloc_past, ltk2, ltk3, ltk4, ltk5, ltk6, ltk7, ltk8, ltk9, *]))
  have cc13_5 : v13.cell? ⟨v6.heap.size, 1, none⟩ = some (.int .i64 y1) := (hb13.cell (p := ⟨v6.heap.size, 1, none⟩) (by first | omega | (simp [ext_size]; try omega))).trans (by (simp (maxDischargeDepth := 8) [go_sem, World.cell?_alloc_past, ltk2, ltk3, ltk4, ltk5, ltk6, ltk7, ltk8, ltk9, *]))
  have cc13_6 : v13.cell? ⟨v11.heap.size, 0, none⟩ = some (.int .i64 U0) := (hb13.cell (p := ⟨v11.heap.size, 0, none⟩) (by first | omega | (simp [ext_size]; try omega))).trans (by (simp (maxDischargeDepth := 8) [go_sem, World.cell?_alloc_past, ltk2, ltk3, ltk4, ltk5, ltk6, ltk7, ltk8, ltk9, *]))
  have cc13_7 : v13.cell? ⟨v11.heap.size, 1, none⟩ = some (.int .i64 U1) := (hb13.cell (p := ⟨v11.heap.size, 1, none⟩) (by first | omega | (simp [ext_size]; try omega))).trans (by (simp (maxDischargeDepth := 8) [go_sem, World.cell?_alloc_past, ltk2, ltk3, ltk4, ltk5, ltk6, ltk7, ltk8, ltk9, *]))
  have cc13_8 : v13.cell? ⟨v12.heap.size, 0, none⟩ = some (.int .i64 V0) := (hb13.cell (p := ⟨v12.heap.size, 0, none⟩) (by first | omega | (simp [ext_size]; try omega))).trans (by (simp (maxDischargeDepth := 8) [go_sem, World.cell?_alloc_past, ltk2, ltk3, ltk4, ltk5, ltk6, ltk7, ltk8, ltk9, *]))
  have cc13_9 : v13.cell? ⟨v12.heap.size, 1, none⟩ = some (.int .i64 V1) := (hb13.cell (p := ⟨v12.heap.size, 1, none⟩) (by first | omega | (simp [ext_size]; try omega))).trans (by (simp (maxDischargeDepth := 8) [go_sem, World.cell?_alloc_past, ltk2, ltk3, ltk4, ltk5, ltk6, ltk7, ltk8, ltk9, *]))
  have zl13_0 : v1.heap.size < v13.heap.size := by omega
  have zl13_1 : v5.heap.size < v13.heap.size := by omega
  have zl13_2 : v6.heap.size < v13.heap.size := by omega
  have zl13_3 : v11.heap.size < v13.heap.size := by omega
  have zl13_4 : v12.heap.size < v13.heap.size := by omega
  have hB13 : Below w.heap.size w v13 := Below.trans (by (repeat (first | with_reducible exact hB12 | (with_reducible refine bext ?_ _ _) | (with_reducible refine below_drewN ?_ _) | (with_reducible refine Below.drew ?_) | (with_reducible refine bal ?_ _) | (with_reducible refine bset ?_ (by first | omega | (simp <;> omega)) _)))) (hb13.mono (by first | omega | (simp [ext_size]; try omega)))
  have zw13 := hB13.size
  clear hb13
  clear cc12_0 cc12_1 cc12_2 cc12_3 cc12_4 cc12_5 cc12_6 cc12_7 cc12_8 cc12_9 cc12_10 cc12_11 zl12_0 zl12_1 zl12_2 zl12_3 zl12_4 zl12_5 zz12 zw12 hB12
  go_wp2_with fail
  with_reducible refine (C2 _).mono ?_
  rintro e v14 ⟨rfl, hb14⟩
  have zz14 := hb14.size
  try simp [ext_size] at zz14
  have cc14_0 : v14.cell? ⟨v1.heap.size, 0, none⟩ = some (.int .i64 a0) := (hb14.cell (p := ⟨v1.heap.size, 0, none⟩) (by first | omega | (simp [ext_size]; try omega))).trans (by (simp (maxDischargeDepth := 8) [go_sem, World.cell?_alloc_past, ltk2, ltk3, ltk4, ltk5, ltk6, ltk7, ltk8, ltk9, *]))
  have cc14_1 : v14.cell? ⟨v1.heap.size, 1, none⟩ = some (.int .i64 a1) := (hb14.cell (p := ⟨v1.heap.size, 1, none⟩) (by first | omega | (simp [ext_size]; try omega))).trans (by (simp (maxDischargeDepth := 8) [go_sem, World.cell?_alloc_past, ltk2, ltk3, ltk4, ltk5, ltk6, ltk7, ltk8, ltk9, *]))
  have cc14_2 : v14.cell? ⟨v6.heap.size, 0, none⟩ = some (.int .i64 y0) := (hb14.cell (p := ⟨v6.heap.size, 0, none⟩) (by first | omega | (simp [ext_size]; try omega))).trans (by (simp (maxDischargeDepth := 8) [go_sem, World.cell?_alloc_past, ltk2, ltk3, ltk4, ltk5, ltk6, ltk7, ltk8, ltk9, *]))
  have cc14_3 : v14.cell? ⟨v6.heap.size, 1, none⟩ = some (.int .i64 y1) := (hb14.cell (p := ⟨v6.heap.size, 1, none⟩) (by first | omega | (simp [ext_size]; try omega))).trans (by (simp (maxDischargeDepth := 8) [go_sem, World.cell?_alloc_past, ltk2, ltk3, ltk4, ltk5, ltk6, ltk7, ltk8, ltk9, *]))
  have cc14_4 : v14.cell? ⟨v12.heap.size, 0, none⟩ = some (.int .i64 V0) := (hb14.cell (p := ⟨v12.heap.size, 0, none⟩) (by first | omega | (simp [ext_size]; try omega))).trans (by (simp (maxDischargeDepth := 8) [go_sem, World.cell?_alloc_past, ltk2, ltk3, ltk4, ltk5, ltk6, ltk7, ltk8, ltk9, *]))
  have cc14_5 : v14.cell? ⟨v12.heap.size, 1, none⟩ = some (.int .i64 V1) := (hb14.cell (p := ⟨v12.heap.size, 1, none⟩) (by first | omega | (simp [ext_size]; try omega))).trans (by (simp (maxDischargeDepth := 8) [go_sem, World.cell?_alloc_past, ltk2, ltk3, ltk4, ltk5, ltk6, ltk7, ltk8, ltk9, *]))
  have zl14_0 : v1.heap.size < v14.heap.size := by omega
  have zl14_1 : v6.heap.size < v14.heap.size := by omega
  have zl14_2 : v12.heap.size < v14.heap.size := by omega
  have hB14 : Below w.heap.size w v14 := Below.trans (by (repeat (first | with_reducible exact hB13 | (with_reducible refine bext ?_ _ _) | (with_reducible refine below_drewN ?_ _) | (with_reducible refine Below.drew ?_) | (with_reducible refine bal ?_ _) | (with_reducible refine bset ?_ (by first | omega | (simp <;> omega)) _)))) (hb14.mono (by first | omega | (simp [ext_size]; try omega)))
  have zw14 := hB14.size
  clear hb14
  clear cc13_0 cc13_1 cc13_2 cc13_3 cc13_4 cc13_5 cc13_6 cc13_7 cc13_8 cc13_9 zl13_0 zl13_1 zl13_2 zl13_3 zl13_4 zz13 zw13 hB13
  go_wp2_with fail
  with_reducible refine (A7 _).mono ?_
  rintro e v15 ⟨rfl, hb15⟩
  have zz15 := hb15.size
  try simp [ext_size] at zz15
  have cc15_0 : v15.cell? ⟨v1.heap.size, 0, none⟩ = some (.int .i64 a0) := (hb15.cell (p := ⟨v1.heap.size, 0, none⟩) (by first | omega | (simp [ext_size]; try omega))).trans (by (simp (maxDischargeDepth := 8) [go_sem, World.cell?_alloc_past, ltk2, ltk3, ltk4, ltk5, ltk6, ltk7, ltk8, ltk9, *]))
  have cc15_1 : v15.cell? ⟨v1.heap.size, 1, none⟩ = some (.int .i64 a1) := (hb15.cell (p := ⟨v1.heap.size, 1, none⟩) (by first | omega | (simp [ext_size]; try omega))).trans (by (simp (maxDischargeDepth := 8) [go_sem, World.cell?_alloc_past, ltk2, ltk3, ltk4, ltk5, ltk6, ltk7, ltk8, ltk9, *]))
  have zl15_0 : v1.heap.size < v15.heap.size := by omega
  have hB15 : Below w.heap.size w v15 := Below.trans (by (repeat (first | with_reducible exact hB14 | (with_reducible refine bext ?_ _ _) | (with_reducible refine below_drewN ?_ _) | (with_reducible refine Below.drew ?_) | (with_reducible refine bal ?_ _) | (with_reducible refine bset ?_ (by first | omega | (simp <;> omega)) _)))) (hb15.mono (by first | omega | (simp [ext_size]; try omega)))
  have zw15 := hB15.size
  clear hb15
  clear cc14_0 cc14_1 cc14_2 cc14_3 cc14_4 cc14_5 zl14_0 zl14_1 zl14_2 zz14 zw14 hB14
  go_wp2_with fail
  with_reducible refine (M5 _).mono ?_
  rintro e v16 ⟨rfl, hb16⟩
  have zz16 := hb16.size
  try simp [ext_size] at zz16
  have cc16_0 : v16.cell? ⟨v1.heap.size, 0, none⟩ = some (.int .i64 a0) := (hb16.cell (p := ⟨v1.heap.size, 0, none⟩) (by first | omega | (simp [ext_size]; try omega))).trans (by (simp (maxDischargeDepth := 8) [go_sem, World.cell?_alloc_past, ltk2, ltk3, ltk4, ltk5, ltk6, ltk7, ltk8, ltk9, *]))
  have cc16_1 : v16.cell? ⟨v1.heap.size, 1, none⟩ = some (.int .i64 a1) := (hb16.cell (p := ⟨v1.heap.size, 1, none⟩) (by first | omega | (simp [ext_size]; try omega))).trans (by (simp (maxDischargeDepth := 8) [go_sem, World.cell?_alloc_past, ltk2, ltk3, ltk4, ltk5, ltk6, ltk7, ltk8, ltk9, *]))
  have cc16_2 : v16.cell? ⟨v15.heap.size, 0, none⟩ = some (.int .i64 t0) := (hb16.cell (p := ⟨v15.heap.size, 0, none⟩) (by first | omega | (simp [ext_size]; try omega))).trans (by (simp (maxDischargeDepth := 8) [go_sem, World.cell?_alloc_past, ltk2, ltk3, ltk4, ltk5, ltk6, ltk7, ltk8, ltk9, *]))
  have cc16_3 : v16.cell? ⟨v15.heap.size, 1, none⟩ = some (.int .i64 tz) := (hb16.cell (p := ⟨v15.heap.size, 1, none⟩) (by first | omega | (simp [ext_size]; try omega))).trans (by (simp (maxDischargeDepth := 8) [go_sem, World.cell?_alloc_past, ltk2, ltk3, ltk4, ltk5, ltk6, ltk7, ltk8, ltk9, *]))
  have zl16_0 : v1.heap.size < v16.heap.size := by omega
  have zl16_1 : v15.heap.size < v16.heap.size := by omega
  have hB16 : Below w.heap.size w v16 := Below.trans (by (repeat (first | with_reducible exact hB15 | (with_reducible refine bext ?_ _ _) | (with_reducible refine below_drewN ?_ _) | (with_reducible refine Below.drew ?_) | (with_reducible refine bal ?_ _) | (with_reducible refine bset ?_ (by first | omega | (simp <;> omega)) _)))) (hb16.mono (by first | omega | (simp [ext_size]; try omega)))
  have zw16 := hB16.size
  clear hb16
  clear cc15_0 cc15_1 zl15_0 zz15 zw15 hB15
  go_wp2_with fail
  with_reducible refine (B3 _).mono ?_
  rintro e v17 ⟨rfl, hb17⟩
  have zz17 := hb17.size
  try simp [ext_size] at zz17
  have cc17_0 : v17.cell? ⟨v15.heap.size, 0, none⟩ = some (.int .i64 t0) := (hb17.cell (p := ⟨v15.heap.size, 0, none⟩) (by first | omega | (simp [ext_size]; try omega))).trans (by (simp (maxDischargeDepth := 8) [go_sem, World.cell?_alloc_past, ltk2, ltk3, ltk4, ltk5, ltk6, ltk7, ltk8, ltk9, *]))
  have cc17_1 : v17.cell? ⟨v15.heap.size, 1, none⟩ = some (.int .i64 tz) := (hb17.cell (p := ⟨v15.heap.size, 1, none⟩) (by first | omega | (simp [ext_size]; try omega))).trans (by (simp (maxDischargeDepth := 8) [go_sem, World.cell?_alloc_past, ltk2, ltk3, ltk4, ltk5, ltk6, ltk7, ltk8, ltk9, *]))
  have cc17_2 : v17.cell? ⟨v16.heap.size, 0, none⟩ = some (.int .i64 f0) := (hb17.cell (p := ⟨v16.heap.size, 0, none⟩) (by first | omega | (simp [ext_size]; try omega))).trans (by (simp (maxDischargeDepth := 8) [go_sem, World.cell?_alloc_past, ltk2, ltk3, ltk4, ltk5, ltk6, ltk7, ltk8, ltk9, *]))
  have cc17_3 : v17.cell? ⟨v16.heap.size, 1, none⟩ = some (.int .i64 f1) := (hb17.cell (p := ⟨v16.heap.size, 1, none⟩) (by first | omega | (simp [ext_size]; try omega))).trans (by (simp (maxDischargeDepth := 8) [go_sem, World.cell?_alloc_past, ltk2, ltk3, ltk4, ltk5, ltk6, ltk7, ltk8, ltk9, *]))
  have zl17_0 : v15.heap.size < v17.heap.size := by omega
  have zl17_1 : v16.heap.size < v17.heap.size := by omega
  have hB17 : Below w.heap.size w v17 := Below.trans (by (repeat (first | with_reducible exact hB16 | (with_reducible refine bext ?_ _ _) | (with_reducible refine below_drewN ?_ _) | (with_reducible refine Below.drew ?_) | (with_reducible refine bal ?_ _) | (with_reducible refine bset ?_ (by first | omega | (simp <;> omega)) _)))) (hb17.mono (by first | omega | (simp [ext_size]; try omega)))
  have zw17 := hB17.size
  clear hb17
  clear cc16_0 cc16_1 cc16_2 cc16_3 zl16_0 zl16_1 zz16 zw16 hB16
  go_wp2_with fail
  with_reducible refine (B4 _).mono ?_
  rintro e v18 ⟨rfl, hb18⟩
  have zz18 := hb18.size
  try simp [ext_size] at zz18
  have cc18_0 : v18.cell? ⟨v15.heap.size, 0, none⟩ = some (.int .i64 t0) := (hb18.cell (p := ⟨v15.heap.size, 0, none⟩) (by first | omega | (simp [ext_size]; try omega))).trans (by (simp (maxDischargeDepth := 8) [go_sem, World.cell?_alloc_past, ltk2, ltk3, ltk4, ltk5, ltk6, ltk7, ltk8, ltk9, *]))
  have cc18_1 : v18.cell? ⟨v15.heap.size, 1, none⟩ = some (.int .i64 tz) := (hb18.cell (p := ⟨v15.heap.size, 1, none⟩) (by first | omega | (simp [ext_size]; try omega))).trans (by (simp (maxDischargeDepth := 8) [go_sem, World.cell?_alloc_past, ltk2, ltk3, ltk4, ltk5, ltk6, ltk7, ltk8, ltk9, *]))
  have cc18_2 : v18.cell? ⟨v17.heap.size, 0, none⟩ = some (.int .i64 B0) := (hb18.cell (p := ⟨v17.heap.size, 0, none⟩) (by first | omega | (simp [ext_size]; try omega))).trans (by (simp (maxDischargeDepth := 8) [go_sem, World.cell?_alloc_past, ltk2, ltk3, ltk4, ltk5, ltk6, ltk7, ltk8, ltk9, *]))
  have cc18_3 : v18.cell? ⟨v17.heap.size, 1, none⟩ = some (.int .i64 BZ) := (hb18.cell (p := ⟨v17.heap.size, 1, none⟩) (by first | omega | (simp [ext_size]; try omega))).trans (by (simp (maxDischargeDepth := 8) [go_sem, World.cell?_alloc_past, ltk2, ltk3, ltk4, ltk5, ltk6, ltk7, ltk8, ltk9, *]))
  have zl18_0 : v15.heap.size < v18.heap.size := by omega
  have zl18_1 : v17.heap.size < v18.heap.size := by omega
  have hB18 : Below w.heap.size w v18 := Below.trans (by (repeat (first | with_reducible exact hB17 | (with_reducible refine bext ?_ _ _) | (with_reducible refine below_drewN ?_ _) | (with_reducible refine Below.drew ?_) | (with_reducible refine bal ?_ _) | (with_reducible refine bset ?_ (by first | omega | (simp <;> omega)) _)))) (hb18.mono (by first | omega | (simp [ext_size]; try omega)))
  have zw18 := hB18.size
  clear hb18
  clear cc17_0 cc17_1 cc17_2 cc17_3 zl17_0 zl17_1 zz17 zw17 hB17
  go_wp2_with fail
  with_reducible refine (C3 _).mono ?_
  rintro e v19 ⟨rfl, hb19⟩
  have zz19 := hb19.size
  try simp [ext_size] at zz19
  have cc19_0 : v19.cell? ⟨v15.heap.size, 0, none⟩ = some (.int .i64 t0) := (hb19.cell (p := ⟨v15.heap.size, 0, none⟩) (by first | omega | (simp [ext_size]; try omega))).trans (by (simp (maxDischargeDepth := 8) [go_sem, World.cell?_alloc_past, ltk2, ltk3, ltk4, ltk5, ltk6, ltk7, ltk8, ltk9, *]))
  have cc19_1 : v19.cell? ⟨v15.heap.size, 1, none⟩ = some (.int .i64 tz) := (hb19.cell (p := ⟨v15.heap.size, 1, none⟩) (by first | omega | (simp [ext_size]; try omega))).trans (by (simp (maxDischargeDepth := 8) [go_sem, World.cell?_alloc_past, ltk2, ltk3, ltk4, ltk5, ltk6, ltk7, ltk8, ltk9, *]))
  have cc19_2 : v19.cell? ⟨v18.heap.size, 0, none⟩ = some (.int .i64 L0) := (hb19.cell (p := ⟨v18.heap.size, 0, none⟩) (by first | omega | (simp [ext_size]; try omega))).trans (by (simp (maxDischargeDepth := 8) [go_sem, World.cell?_alloc_past, ltk2, ltk3, ltk4, ltk5, ltk6, ltk7, ltk8, ltk9, *]))
  have cc19_3 : v19.cell? ⟨v18.heap.size, 1, none⟩ = some (.int .i64 L1) := (hb19.cell (p := ⟨v18.heap.size, 1, none⟩) (by first | omega | (simp [ext_size]; try omega))).trans (by (simp (maxDischargeDepth := 8) [go_sem, World.cell?_alloc_past, ltk2, ltk3, ltk4, ltk5, ltk6, ltk7, ltk8, ltk9, *]))
  have zl19_0 : v15.heap.size < v19.heap.size := by omega
  have zl19_1 : v18.heap.size < v19.heap.size := by omega
  have hB19 : Below w.heap.size w v19 := Below.trans (by (repeat (first | with_reducible exact hB18 | (with_reducible refine bext ?_ _ _) | (with_reducible refine below_drewN ?_ _) | (with_reducible refine Below.drew ?_) | (with_reducible refine bal ?_ _) | (with_reducible refine bset ?_ (by first | omega | (simp <;> omega)) _)))) (hb19.mono (by first | omega | (simp [ext_size]; try omega)))
  have zw19 := hB19.size
  clear hb19
  clear cc18_0 cc18_1 cc18_2 cc18_3 zl18_0 zl18_1 zz18 zw18 hB18
  go_wp2_with fail
  with_reducible refine (AL _).mono ?_
  rintro e v20 ⟨rfl, hb20⟩
  have zz20 := hb20.size
  try simp [ext_size] at zz20
  have hB20 : Below w.heap.size w v20 := Below.trans (by (repeat (first | with_reducible exact hB19 | (with_reducible refine bext ?_ _ _) | (with_reducible refine below_drewN ?_ _) | (with_reducible refine Below.drew ?_) | (with_reducible refine bal ?_ _) | (with_reducible refine bset ?_ (by first | omega | (simp <;> omega)) _)))) (hb20.mono (by first | omega | (simp [ext_size]; try omega)))
  have zw20 := hB20.size
  clear hb20
  clear cc19_0 cc19_1 cc19_2 cc19_3 zl19_0 zl19_1 zz19 zw19 hB19
  go_wp2
  go_ret
  exact ⟨rfl, by (repeat (first | with_reducible exact hB20 | (with_reducible refine bext ?_ _ _) | (with_reducible refine below_drewN ?_ _) | (with_reducible refine Below.drew ?_) | (with_reducible refine bal ?_ _) | (with_reducible refine bset ?_ (by first | omega | (simp <;> omega)) _)))⟩

set_option maxRecDepth 100000 in
set_option maxHeartbeats 1600000 in
theorem sums5 (k l n : Int) (h1 : -9223372036854775808 ≤ k) (h2 : k ≤ 9223372036854775807) (w : World) :
    Calls Try.prog 7 #[.int .i64 k, .int .i64 l, .int .i64 n] w fun x w' => x = .returned (.bool true) ∧ Below w.heap.size w w' := by
  by_cases c : 1 ≤ n ∧ n ≤ 720 ∧ -1000000 ≤ k ∧ k ≤ 1000000 ∧ -1000000 ≤ l ∧ l ≤ 1000000
  · obtain ⟨c1, c2, c3, c4, c5, c6⟩ := c
    have := sums_main k l n.toNat (by omega) (by omega) c3 c4 c5 c6 w
    rw [show ((n.toNat : Nat) : Int) = n by omega] at this
    exact this
  · have AL := fun w => law5_alive w
    rcases (show n < 1 ∨ (1 ≤ n ∧ 720 < n) ∨ (1 ≤ n ∧ n ≤ 720 ∧ k < -1000000) ∨ (1 ≤ n ∧ n ≤ 720 ∧ -1000000 ≤ k ∧ 1000000 < k) ∨ (1 ≤ n ∧ n ≤ 720 ∧ -1000000 ≤ k ∧ k ≤ 1000000 ∧ l < -1000000) ∨ (1 ≤ n ∧ n ≤ 720 ∧ -1000000 ≤ k ∧ k ≤ 1000000 ∧ -1000000 ≤ l ∧ 1000000 < l) by omega) with q | ⟨q1, q2⟩ | ⟨q1, q2, q3⟩ | ⟨q1, q2, q3, q4⟩ | ⟨q1, q2, q3, q4, q5⟩ | ⟨q1, q2, q3, q4, q5, q6⟩
    all_goals
      clear c
      have dAl := dAl; have dSt := dSt; have xC := ext_cell; have xF := ext_frozen; have xS := ext_set; have xN := ext_drewN; have xD := ext_drew; have xL := ext_lt; have xE := ext_ne; have xG := ext_nr; have xX := ext_ext; have xL1 := ext_lt1; have xL2 := ext_lt2; have xL3 := ext_lt3; have xM0 := ext_le0; have xM1 := ext_le1; have xM2 := ext_le2
      go_enter Try.func7, Try.ntmps7
      go_wp2_with fail
      refine (AL _).mono ?_
      rintro e w1c ⟨rfl, hb1c⟩
      obtain ⟨l1c, d1c, rfl⟩ := toExt hb1c
      clear hb1c
      go_wp2
      go_ret
      exact ⟨rfl, by (repeat (first | with_reducible exact b0 _ | (with_reducible refine bext ?_ _ _) | (with_reducible refine below_drewN ?_ _) | (with_reducible refine Below.drew ?_) | (with_reducible refine bal ?_ _)))⟩
end Go.Proofs.Ytilcgbloangcmaa
