/-
  The laws' own small functions over cosines, and the chapter's examples.
-/
import Derived.Test.YtilcgbloangcmaaSq
import Derived.Test.YtilcgbloangcmaaSg
namespace Go.Proofs.Ytilcgbloangcmaa
open Go.RowKit
set_option linter.unusedVariables false
set_option linter.unusedSimpArgs false

set_option maxHeartbeats 400000 in
theorem law5_cos (k n lo hi : Int) (a1 : -9223372036854775808 ≤ k) (a2 : k ≤ 9223372036854775807) (hc : decide (coE n = 0 ∧ coL k n = lo ∧ coH k n = hi) = true) (w : World) :
    Calls Try.prog 9 #[.int .i64 k, .int .i64 n, .int .i64 lo, .int .i64 hi] w fun x w' => x = .returned (.bool true) ∧ Below w.heap.size w w' := by
  have A1 := fun w => sine_Cos k n a1 a2 w
  have A2 := fun w => law5_is (coL k n) (coH k n) (coE n) lo hi w
  rw [hc] at A2
  clear hc
  generalize coL k n = x at *
  generalize coH k n = y at *
  generalize coE n = z at *
  have dAl := dAl; have dSt := dSt; have xC := ext_cell; have xF := ext_frozen; have xS := ext_set; have xN := ext_drewN; have xD := ext_drew; have xL := ext_lt; have xE := ext_ne; have xG := ext_nr; have xX := ext_ext; have xL1 := ext_lt1; have xL2 := ext_lt2; have xL3 := ext_lt3; have xM0 := ext_le0; have xM1 := ext_le1; have xM2 := ext_le2
  go_enter Try.func9, Try.ntmps9
  go_wp2_with fail
  refine (A1 _).mono ?_
  rintro e w1c ⟨rfl, hb1c⟩
  obtain ⟨l1c, d1c, rfl⟩ := toExt hb1c
  clear hb1c
  go_wp2_with fail
  refine (A2 _).mono ?_
  rintro e w2c ⟨rfl, hb2c⟩
  obtain ⟨l2c, d2c, rfl⟩ := toExt hb2c
  clear hb2c
  go_wp2
  go_ret
  exact ⟨rfl, by (repeat (first | with_reducible exact b0 _ | (with_reducible refine bext ?_ _ _) | (with_reducible refine below_drewN ?_ _) | (with_reducible refine Below.drew ?_) | (with_reducible refine bal ?_ _)))⟩

set_option maxHeartbeats 400000 in
theorem law5_sin (k n lo hi : Int) (a1 : -9223372036854775808 ≤ k) (a2 : k ≤ 9223372036854775807) (hc : decide (coE n = 0 ∧ siL k n = lo ∧ siH k n = hi) = true) (w : World) :
    Calls Try.prog 10 #[.int .i64 k, .int .i64 n, .int .i64 lo, .int .i64 hi] w fun x w' => x = .returned (.bool true) ∧ Below w.heap.size w w' := by
  have A1 := fun w => sine_Sin k n a1 a2 w
  have A2 := fun w => law5_is (siL k n) (siH k n) (coE n) lo hi w
  rw [hc] at A2
  clear hc
  generalize siL k n = x at *
  generalize siH k n = y at *
  generalize coE n = z at *
  have dAl := dAl; have dSt := dSt; have xC := ext_cell; have xF := ext_frozen; have xS := ext_set; have xN := ext_drewN; have xD := ext_drew; have xL := ext_lt; have xE := ext_ne; have xG := ext_nr; have xX := ext_ext; have xL1 := ext_lt1; have xL2 := ext_lt2; have xL3 := ext_lt3; have xM0 := ext_le0; have xM1 := ext_le1; have xM2 := ext_le2
  go_enter Try.func10, Try.ntmps10
  go_wp2_with fail
  refine (A1 _).mono ?_
  rintro e w3c ⟨rfl, hb3c⟩
  obtain ⟨l3c, d3c, rfl⟩ := toExt hb3c
  clear hb3c
  go_wp2_with fail
  refine (A2 _).mono ?_
  rintro e w4c ⟨rfl, hb4c⟩
  obtain ⟨l4c, d4c, rfl⟩ := toExt hb4c
  clear hb4c
  go_wp2
  go_ret
  exact ⟨rfl, by (repeat (first | with_reducible exact b0 _ | (with_reducible refine bext ?_ _ _) | (with_reducible refine below_drewN ?_ _) | (with_reducible refine Below.drew ?_) | (with_reducible refine bal ?_ _)))⟩

set_option maxRecDepth 100000 in
set_option maxHeartbeats 1600000 in
theorem law5_alive (w : World) : Calls Try.prog 20 #[] w fun x w' => x = .returned (.bool true) ∧ Below w.heap.size w w' := by
  have A1 := fun w => sine_Of 1 3 (by omega) (by omega) (by omega) (by omega) w
  have A2 := fun w => sine_Of (-1) 3 (by omega) (by omega) (by omega) (by omega) w
  have A3 := fun w => sine_Mul 333333 333334 (-333334) (-333333) w
  have A4 := fun w => sine_Sign (-333334) (-333333) w
  have A5 := fun w => sine_Sign (-1) 2 w
  rw [show ovL 1 3 = 333333 by decide +kernel, show ovH 1 3 = 333334 by decide +kernel, show ovE 1 3 = 0 by decide +kernel] at A1
  rw [show ovL (-1) 3 = -333334 by decide +kernel, show ovH (-1) 3 = -333333 by decide +kernel, show ovE (-1) 3 = 0 by decide +kernel] at A2
  rw [show smL 333333 333334 (-333334) (-333333) = -111112 by decide +kernel, show smH 333333 333334 (-333334) (-333333) = -111110 by decide +kernel, show smE 333333 333334 (-333334) (-333333) = 0 by decide +kernel] at A3
  rw [show sgV (-333334) (-333333) = -1 by decide +kernel, show sgE (-333334) (-333333) = 0 by decide +kernel] at A4
  rw [show sgV (-1) 2 = 0 by decide +kernel, show sgE (-1) 2 = 24 by decide +kernel] at A5
  have B1 := fun w => law5_cos 1 8 707106 707107 (by omega) (by omega) (by decide +kernel) w
  have B2 := fun w => law5_cos 1 6 500000 500000 (by omega) (by omega) (by decide +kernel) w
  have B3 := fun w => law5_sin 1 6 866025 866026 (by omega) (by omega) (by decide +kernel) w
  have B4 := fun w => law5_sin 3 4 (-1000000) (-1000000) (by omega) (by omega) (by decide +kernel) w
  have B5 := fun w => law5_is 333333 333334 0 333333 333334 w
  have B6 := fun w => law5_is (-333334) (-333333) 0 (-333334) (-333333) w
  have B7 := fun w => law5_is (-111112) (-111110) 0 (-111112) (-111110) w
  rw [show decide ((0 : Int) = 0 ∧ (333333 : Int) = 333333 ∧ (333334 : Int) = 333334) = true by decide +kernel] at B5
  rw [show decide ((0 : Int) = 0 ∧ (-333334 : Int) = -333334 ∧ (-333333 : Int) = -333333) = true by decide +kernel] at B6
  rw [show decide ((0 : Int) = 0 ∧ (-111112 : Int) = -111112 ∧ (-111110 : Int) = -111110) = true by decide +kernel] at B7
  have dAl := dAl; have dSt := dSt; have xC := ext_cell; have xF := ext_frozen; have xS := ext_set; have xN := ext_drewN; have xD := ext_drew; have xL := ext_lt; have xE := ext_ne; have xG := ext_nr; have xX := ext_ext; have xL1 := ext_lt1; have xL2 := ext_lt2; have xL3 := ext_lt3; have xM0 := ext_le0; have xM1 := ext_le1; have xM2 := ext_le2
  go_enter Try.func20, Try.ntmps20
  go_wp2_with fail
  refine (A1 _).mono ?_
  rintro e v1 ⟨rfl, hb1⟩
  have zz1 := hb1.size
  try simp [ext_size] at zz1
  have hB1 : Below w.heap.size w v1 := Below.trans (by (repeat (first | with_reducible exact b0 _ | (with_reducible refine bext ?_ _ _) | (with_reducible refine below_drewN ?_ _) | (with_reducible refine Below.drew ?_) | (with_reducible refine bal ?_ _)))) (hb1.mono (by first | omega | (simp [ext_size]; try omega)))
  clear hb1
  go_wp2_with fail
  refine (A2 _).mono ?_
  rintro e v2 ⟨rfl, hb2⟩
  have zz2 := hb2.size
  try simp [ext_size] at zz2
  have cc2_0 : v2.cell? ⟨v1.heap.size, 0, none⟩ = some (.int .i64 333333) := (hb2.cell (p := ⟨v1.heap.size, 0, none⟩) (by first | omega | (simp [ext_size]; try omega))).trans (by (simp (maxDischargeDepth := 8) [go_sem, World.cell?_alloc_past, ltk2, ltk3, ltk4, ltk5, ltk6, ltk7, ltk8, ltk9, *]))
  have cc2_1 : v2.cell? ⟨v1.heap.size, 1, none⟩ = some (.int .i64 333334) := (hb2.cell (p := ⟨v1.heap.size, 1, none⟩) (by first | omega | (simp [ext_size]; try omega))).trans (by (simp (maxDischargeDepth := 8) [go_sem, World.cell?_alloc_past, ltk2, ltk3, ltk4, ltk5, ltk6, ltk7, ltk8, ltk9, *]))
  have zl2_0 : v1.heap.size < v2.heap.size := by omega
  have hB2 : Below w.heap.size w v2 := Below.trans (by (repeat (first | with_reducible exact hB1 | (with_reducible refine bext ?_ _ _) | (with_reducible refine below_drewN ?_ _) | (with_reducible refine Below.drew ?_) | (with_reducible refine bal ?_ _) | (with_reducible refine bset ?_ (by first | omega | (simp <;> omega)) _)))) (hb2.mono (by first | omega | (simp [ext_size]; try omega)))
  clear hb2
  go_wp2_with fail
  refine (A3 _).mono ?_
  rintro e v3 ⟨rfl, hb3⟩
  have zz3 := hb3.size
  try simp [ext_size] at zz3
  have cc3_0 : v3.cell? ⟨v1.heap.size, 0, none⟩ = some (.int .i64 333333) := (hb3.cell (p := ⟨v1.heap.size, 0, none⟩) (by first | omega | (simp [ext_size]; try omega))).trans (by (simp (maxDischargeDepth := 8) [go_sem, World.cell?_alloc_past, ltk2, ltk3, ltk4, ltk5, ltk6, ltk7, ltk8, ltk9, *]))
  have cc3_1 : v3.cell? ⟨v1.heap.size, 1, none⟩ = some (.int .i64 333334) := (hb3.cell (p := ⟨v1.heap.size, 1, none⟩) (by first | omega | (simp [ext_size]; try omega))).trans (by (simp (maxDischargeDepth := 8) [go_sem, World.cell?_alloc_past, ltk2, ltk3, ltk4, ltk5, ltk6, ltk7, ltk8, ltk9, *]))
  have cc3_2 : v3.cell? ⟨v2.heap.size, 0, none⟩ = some (.int .i64 (-333334)) := (hb3.cell (p := ⟨v2.heap.size, 0, none⟩) (by first | omega | (simp [ext_size]; try omega))).trans (by (simp (maxDischargeDepth := 8) [go_sem, World.cell?_alloc_past, ltk2, ltk3, ltk4, ltk5, ltk6, ltk7, ltk8, ltk9, *]))
  have cc3_3 : v3.cell? ⟨v2.heap.size, 1, none⟩ = some (.int .i64 (-333333)) := (hb3.cell (p := ⟨v2.heap.size, 1, none⟩) (by first | omega | (simp [ext_size]; try omega))).trans (by (simp (maxDischargeDepth := 8) [go_sem, World.cell?_alloc_past, ltk2, ltk3, ltk4, ltk5, ltk6, ltk7, ltk8, ltk9, *]))
  have zl3_0 : v1.heap.size < v3.heap.size := by omega
  have zl3_1 : v2.heap.size < v3.heap.size := by omega
  have hB3 : Below w.heap.size w v3 := Below.trans (by (repeat (first | with_reducible exact hB2 | (with_reducible refine bext ?_ _ _) | (with_reducible refine below_drewN ?_ _) | (with_reducible refine Below.drew ?_) | (with_reducible refine bal ?_ _) | (with_reducible refine bset ?_ (by first | omega | (simp <;> omega)) _)))) (hb3.mono (by first | omega | (simp [ext_size]; try omega)))
  clear hb3
  go_wp2_with fail
  refine (A4 _).mono ?_
  rintro e v4 ⟨rfl, hb4⟩
  have zz4 := hb4.size
  try simp [ext_size] at zz4
  have cc4_0 : v4.cell? ⟨v1.heap.size, 0, none⟩ = some (.int .i64 333333) := (hb4.cell (p := ⟨v1.heap.size, 0, none⟩) (by first | omega | (simp [ext_size]; try omega))).trans (by (simp (maxDischargeDepth := 8) [go_sem, World.cell?_alloc_past, ltk2, ltk3, ltk4, ltk5, ltk6, ltk7, ltk8, ltk9, *]))
  have cc4_1 : v4.cell? ⟨v1.heap.size, 1, none⟩ = some (.int .i64 333334) := (hb4.cell (p := ⟨v1.heap.size, 1, none⟩) (by first | omega | (simp [ext_size]; try omega))).trans (by (simp (maxDischargeDepth := 8) [go_sem, World.cell?_alloc_past, ltk2, ltk3, ltk4, ltk5, ltk6, ltk7, ltk8, ltk9, *]))
  have cc4_2 : v4.cell? ⟨v2.heap.size, 0, none⟩ = some (.int .i64 (-333334)) := (hb4.cell (p := ⟨v2.heap.size, 0, none⟩) (by first | omega | (simp [ext_size]; try omega))).trans (by (simp (maxDischargeDepth := 8) [go_sem, World.cell?_alloc_past, ltk2, ltk3, ltk4, ltk5, ltk6, ltk7, ltk8, ltk9, *]))
  have cc4_3 : v4.cell? ⟨v2.heap.size, 1, none⟩ = some (.int .i64 (-333333)) := (hb4.cell (p := ⟨v2.heap.size, 1, none⟩) (by first | omega | (simp [ext_size]; try omega))).trans (by (simp (maxDischargeDepth := 8) [go_sem, World.cell?_alloc_past, ltk2, ltk3, ltk4, ltk5, ltk6, ltk7, ltk8, ltk9, *]))
  have cc4_4 : v4.cell? ⟨v3.heap.size, 0, none⟩ = some (.int .i64 (-111112)) := (hb4.cell (p := ⟨v3.heap.size, 0, none⟩) (by first | omega | (simp [ext_size]; try omega))).trans (by (simp (maxDischargeDepth := 8) [go_sem, World.cell?_alloc_past, ltk2, ltk3, ltk4, ltk5, ltk6, ltk7, ltk8, ltk9, *]))
  have cc4_5 : v4.cell? ⟨v3.heap.size, 1, none⟩ = some (.int .i64 (-111110)) := (hb4.cell (p := ⟨v3.heap.size, 1, none⟩) (by first | omega | (simp [ext_size]; try omega))).trans (by (simp (maxDischargeDepth := 8) [go_sem, World.cell?_alloc_past, ltk2, ltk3, ltk4, ltk5, ltk6, ltk7, ltk8, ltk9, *]))
  have zl4_0 : v1.heap.size < v4.heap.size := by omega
  have zl4_1 : v2.heap.size < v4.heap.size := by omega
  have zl4_2 : v3.heap.size < v4.heap.size := by omega
  have hB4 : Below w.heap.size w v4 := Below.trans (by (repeat (first | with_reducible exact hB3 | (with_reducible refine bext ?_ _ _) | (with_reducible refine below_drewN ?_ _) | (with_reducible refine Below.drew ?_) | (with_reducible refine bal ?_ _) | (with_reducible refine bset ?_ (by first | omega | (simp <;> omega)) _)))) (hb4.mono (by first | omega | (simp [ext_size]; try omega)))
  clear hb4
  go_wp2_with fail
  refine (A5 _).mono ?_
  rintro e v5 ⟨rfl, hb5⟩
  have zz5 := hb5.size
  try simp [ext_size] at zz5
  have cc5_0 : v5.cell? ⟨v1.heap.size, 0, none⟩ = some (.int .i64 333333) := (hb5.cell (p := ⟨v1.heap.size, 0, none⟩) (by first | omega | (simp [ext_size]; try omega))).trans (by (simp (maxDischargeDepth := 8) [go_sem, World.cell?_alloc_past, ltk2, ltk3, ltk4, ltk5, ltk6, ltk7, ltk8, ltk9, *]))
  have cc5_1 : v5.cell? ⟨v1.heap.size, 1, none⟩ = some (.int .i64 333334) := (hb5.cell (p := ⟨v1.heap.size, 1, none⟩) (by first | omega | (simp [ext_size]; try omega))).trans (by (simp (maxDischargeDepth := 8) [go_sem, World.cell?_alloc_past, ltk2, ltk3, ltk4, ltk5, ltk6, ltk7, ltk8, ltk9, *]))
  have cc5_2 : v5.cell? ⟨v2.heap.size, 0, none⟩ = some (.int .i64 (-333334)) := (hb5.cell (p := ⟨v2.heap.size, 0, none⟩) (by first | omega | (simp [ext_size]; try omega))).trans (by (simp (maxDischargeDepth := 8) [go_sem, World.cell?_alloc_past, ltk2, ltk3, ltk4, ltk5, ltk6, ltk7, ltk8, ltk9, *]))
  have cc5_3 : v5.cell? ⟨v2.heap.size, 1, none⟩ = some (.int .i64 (-333333)) := (hb5.cell (p := ⟨v2.heap.size, 1, none⟩) (by first | omega | (simp [ext_size]; try omega))).trans (by (simp (maxDischargeDepth := 8) [go_sem, World.cell?_alloc_past, ltk2, ltk3, ltk4, ltk5, ltk6, ltk7, ltk8, ltk9, *]))
  have cc5_4 : v5.cell? ⟨v3.heap.size, 0, none⟩ = some (.int .i64 (-111112)) := (hb5.cell (p := ⟨v3.heap.size, 0, none⟩) (by first | omega | (simp [ext_size]; try omega))).trans (by (simp (maxDischargeDepth := 8) [go_sem, World.cell?_alloc_past, ltk2, ltk3, ltk4, ltk5, ltk6, ltk7, ltk8, ltk9, *]))
  have cc5_5 : v5.cell? ⟨v3.heap.size, 1, none⟩ = some (.int .i64 (-111110)) := (hb5.cell (p := ⟨v3.heap.size, 1, none⟩) (by first | omega | (simp [ext_size]; try omega))).trans (by (simp (maxDischargeDepth := 8) [go_sem, World.cell?_alloc_past, ltk2, ltk3, ltk4, ltk5, ltk6, ltk7, ltk8, ltk9, *]))
  have zl5_0 : v1.heap.size < v5.heap.size := by omega
  have zl5_1 : v2.heap.size < v5.heap.size := by omega
  have zl5_2 : v3.heap.size < v5.heap.size := by omega
  have hB5 : Below w.heap.size w v5 := Below.trans (by (repeat (first | with_reducible exact hB4 | (with_reducible refine bext ?_ _ _) | (with_reducible refine below_drewN ?_ _) | (with_reducible refine Below.drew ?_) | (with_reducible refine bal ?_ _) | (with_reducible refine bset ?_ (by first | omega | (simp <;> omega)) _)))) (hb5.mono (by first | omega | (simp [ext_size]; try omega)))
  clear hb5
  go_wp2_with fail
  refine (B1 _).mono ?_
  rintro e v6 ⟨rfl, hb6⟩
  have zz6 := hb6.size
  try simp [ext_size] at zz6
  have cc6_0 : v6.cell? ⟨v1.heap.size, 0, none⟩ = some (.int .i64 333333) := (hb6.cell (p := ⟨v1.heap.size, 0, none⟩) (by first | omega | (simp [ext_size]; try omega))).trans (by (simp (maxDischargeDepth := 8) [go_sem, World.cell?_alloc_past, ltk2, ltk3, ltk4, ltk5, ltk6, ltk7, ltk8, ltk9, *]))
  have cc6_1 : v6.cell? ⟨v1.heap.size, 1, none⟩ = some (.int .i64 333334) := (hb6.cell (p := ⟨v1.heap.size, 1, none⟩) (by first | omega | (simp [ext_size]; try omega))).trans (by (simp (maxDischargeDepth := 8) [go_sem, World.cell?_alloc_past, ltk2, ltk3, ltk4, ltk5, ltk6, ltk7, ltk8, ltk9, *]))
  have cc6_2 : v6.cell? ⟨v2.heap.size, 0, none⟩ = some (.int .i64 (-333334)) := (hb6.cell (p := ⟨v2.heap.size, 0, none⟩) (by first | omega | (simp [ext_size]; try omega))).trans (by (simp (maxDischargeDepth := 8) [go_sem, World.cell?_alloc_past, ltk2, ltk3, ltk4, ltk5, ltk6, ltk7, ltk8, ltk9, *]))
  have cc6_3 : v6.cell? ⟨v2.heap.size, 1, none⟩ = some (.int .i64 (-333333)) := (hb6.cell (p := ⟨v2.heap.size, 1, none⟩) (by first | omega | (simp [ext_size]; try omega))).trans (by (simp (maxDischargeDepth := 8) [go_sem, World.cell?_alloc_past, ltk2, ltk3, ltk4, ltk5, ltk6, ltk7, ltk8, ltk9, *]))
  have cc6_4 : v6.cell? ⟨v3.heap.size, 0, none⟩ = some (.int .i64 (-111112)) := (hb6.cell (p := ⟨v3.heap.size, 0, none⟩) (by first | omega | (simp [ext_size]; try omega))).trans (by (simp (maxDischargeDepth := 8) [go_sem, World.cell?_alloc_past, ltk2, ltk3, ltk4, ltk5, ltk6, ltk7, ltk8, ltk9, *]))
  have cc6_5 : v6.cell? ⟨v3.heap.size, 1, none⟩ = some (.int .i64 (-111110)) := (hb6.cell (p := ⟨v3.heap.size, 1, none⟩) (by first | omega | (simp [ext_size]; try omega))).trans (by (simp (maxDischargeDepth := 8) [go_sem, World.cell?_alloc_past, ltk2, ltk3, ltk4, ltk5, ltk6, ltk7, ltk8, ltk9, *]))
  have zl6_0 : v1.heap.size < v6.heap.size := by omega
  have zl6_1 : v2.heap.size < v6.heap.size := by omega
  have zl6_2 : v3.heap.size < v6.heap.size := by omega
  have hB6 : Below w.heap.size w v6 := Below.trans (by (repeat (first | with_reducible exact hB5 | (with_reducible refine bext ?_ _ _) | (with_reducible refine below_drewN ?_ _) | (with_reducible refine Below.drew ?_) | (with_reducible refine bal ?_ _) | (with_reducible refine bset ?_ (by first | omega | (simp <;> omega)) _)))) (hb6.mono (by first | omega | (simp [ext_size]; try omega)))
  clear hb6
  go_wp2_with fail
  refine (B2 _).mono ?_
  rintro e v7 ⟨rfl, hb7⟩
  have zz7 := hb7.size
  try simp [ext_size] at zz7
  have cc7_0 : v7.cell? ⟨v1.heap.size, 0, none⟩ = some (.int .i64 333333) := (hb7.cell (p := ⟨v1.heap.size, 0, none⟩) (by first | omega | (simp [ext_size]; try omega))).trans (by (simp (maxDischargeDepth := 8) [go_sem, World.cell?_alloc_past, ltk2, ltk3, ltk4, ltk5, ltk6, ltk7, ltk8, ltk9, *]))
  have cc7_1 : v7.cell? ⟨v1.heap.size, 1, none⟩ = some (.int .i64 333334) := (hb7.cell (p := ⟨v1.heap.size, 1, none⟩) (by first | omega | (simp [ext_size]; try omega))).trans (by (simp (maxDischargeDepth := 8) [go_sem, World.cell?_alloc_past, ltk2, ltk3, ltk4, ltk5, ltk6, ltk7, ltk8, ltk9, *]))
  have cc7_2 : v7.cell? ⟨v2.heap.size, 0, none⟩ = some (.int .i64 (-333334)) := (hb7.cell (p := ⟨v2.heap.size, 0, none⟩) (by first | omega | (simp [ext_size]; try omega))).trans (by (simp (maxDischargeDepth := 8) [go_sem, World.cell?_alloc_past, ltk2, ltk3, ltk4, ltk5, ltk6, ltk7, ltk8, ltk9, *]))
  have cc7_3 : v7.cell? ⟨v2.heap.size, 1, none⟩ = some (.int .i64 (-333333)) := (hb7.cell (p := ⟨v2.heap.size, 1, none⟩) (by first | omega | (simp [ext_size]; try omega))).trans (by (simp (maxDischargeDepth := 8) [go_sem, World.cell?_alloc_past, ltk2, ltk3, ltk4, ltk5, ltk6, ltk7, ltk8, ltk9, *]))
  have cc7_4 : v7.cell? ⟨v3.heap.size, 0, none⟩ = some (.int .i64 (-111112)) := (hb7.cell (p := ⟨v3.heap.size, 0, none⟩) (by first | omega | (simp [ext_size]; try omega))).trans (by (simp (maxDischargeDepth := 8) [go_sem, World.cell?_alloc_past, ltk2, ltk3, ltk4, ltk5, ltk6, ltk7, ltk8, ltk9, *]))
  have cc7_5 : v7.cell? ⟨v3.heap.size, 1, none⟩ = some (.int .i64 (-111110)) := (hb7.cell (p := ⟨v3.heap.size, 1, none⟩) (by first | omega | (simp [ext_size]; try omega))).trans (by (simp (maxDischargeDepth := 8) [go_sem, World.cell?_alloc_past, ltk2, ltk3, ltk4, ltk5, ltk6, ltk7, ltk8, ltk9, *]))
  have zl7_0 : v1.heap.size < v7.heap.size := by omega
  have zl7_1 : v2.heap.size < v7.heap.size := by omega
  have zl7_2 : v3.heap.size < v7.heap.size := by omega
  have hB7 : Below w.heap.size w v7 := Below.trans (by (repeat (first | with_reducible exact hB6 | (with_reducible refine bext ?_ _ _) | (with_reducible refine below_drewN ?_ _) | (with_reducible refine Below.drew ?_) | (with_reducible refine bal ?_ _) | (with_reducible refine bset ?_ (by first | omega | (simp <;> omega)) _)))) (hb7.mono (by first | omega | (simp [ext_size]; try omega)))
  clear hb7
  go_wp2_with fail
  refine (B3 _).mono ?_
  rintro e v8 ⟨rfl, hb8⟩
  have zz8 := hb8.size
  try simp [ext_size] at zz8
  have cc8_0 : v8.cell? ⟨v1.heap.size, 0, none⟩ = some (.int .i64 333333) := (hb8.cell (p := ⟨v1.heap.size, 0, none⟩) (by first | omega | (simp [ext_size]; try omega))).trans (by (simp (maxDischargeDepth := 8) [go_sem, World.cell?_alloc_past, ltk2, ltk3, ltk4, ltk5, ltk6, ltk7, ltk8, ltk9, *]))
  have cc8_1 : v8.cell? ⟨v1.heap.size, 1, none⟩ = some (.int .i64 333334) := (hb8.cell (p := ⟨v1.heap.size, 1, none⟩) (by first | omega | (simp [ext_size]; try omega))).trans (by (simp (maxDischargeDepth := 8) [go_sem, World.cell?_alloc_past, ltk2, ltk3, ltk4, ltk5, ltk6, ltk7, ltk8, ltk9, *]))
  have cc8_2 : v8.cell? ⟨v2.heap.size, 0, none⟩ = some (.int .i64 (-333334)) := (hb8.cell (p := ⟨v2.heap.size, 0, none⟩) (by first | omega | (simp [ext_size]; try omega))).trans (by (simp (maxDischargeDepth := 8) [go_sem, World.cell?_alloc_past, ltk2, ltk3, ltk4, ltk5, ltk6, ltk7, ltk8, ltk9, *]))
  have cc8_3 : v8.cell? ⟨v2.heap.size, 1, none⟩ = some (.int .i64 (-333333)) := (hb8.cell (p := ⟨v2.heap.size, 1, none⟩) (by first | omega | (simp [ext_size]; try omega))).trans (by (simp (maxDischargeDepth := 8) [go_sem, World.cell?_alloc_past, ltk2, ltk3, ltk4, ltk5, ltk6, ltk7, ltk8, ltk9, *]))
  have cc8_4 : v8.cell? ⟨v3.heap.size, 0, none⟩ = some (.int .i64 (-111112)) := (hb8.cell (p := ⟨v3.heap.size, 0, none⟩) (by first | omega | (simp [ext_size]; try omega))).trans (by (simp (maxDischargeDepth := 8) [go_sem, World.cell?_alloc_past, ltk2, ltk3, ltk4, ltk5, ltk6, ltk7, ltk8, ltk9, *]))
  have cc8_5 : v8.cell? ⟨v3.heap.size, 1, none⟩ = some (.int .i64 (-111110)) := (hb8.cell (p := ⟨v3.heap.size, 1, none⟩) (by first | omega | (simp [ext_size]; try omega))).trans (by (simp (maxDischargeDepth := 8) [go_sem, World.cell?_alloc_past, ltk2, ltk3, ltk4, ltk5, ltk6, ltk7, ltk8, ltk9, *]))
  have zl8_0 : v1.heap.size < v8.heap.size := by omega
  have zl8_1 : v2.heap.size < v8.heap.size := by omega
  have zl8_2 : v3.heap.size < v8.heap.size := by omega
  have hB8 : Below w.heap.size w v8 := Below.trans (by (repeat (first | with_reducible exact hB7 | (with_reducible refine bext ?_ _ _) | (with_reducible refine below_drewN ?_ _) | (with_reducible refine Below.drew ?_) | (with_reducible refine bal ?_ _) | (with_reducible refine bset ?_ (by first | omega | (simp <;> omega)) _)))) (hb8.mono (by first | omega | (simp [ext_size]; try omega)))
  clear hb8
  go_wp2_with fail
  refine (B4 _).mono ?_
  rintro e v9 ⟨rfl, hb9⟩
  have zz9 := hb9.size
  try simp [ext_size] at zz9
  have cc9_0 : v9.cell? ⟨v1.heap.size, 0, none⟩ = some (.int .i64 333333) := (hb9.cell (p := ⟨v1.heap.size, 0, none⟩) (by first | omega | (simp [ext_size]; try omega))).trans (by (simp (maxDischargeDepth := 8) [go_sem, World.cell?_alloc_past, ltk2, ltk3, ltk4, ltk5, ltk6, ltk7, ltk8, ltk9, *]))
  have cc9_1 : v9.cell? ⟨v1.heap.size, 1, none⟩ = some (.int .i64 333334) := (hb9.cell (p := ⟨v1.heap.size, 1, none⟩) (by first | omega | (simp [ext_size]; try omega))).trans (by (simp (maxDischargeDepth := 8) [go_sem, World.cell?_alloc_past, ltk2, ltk3, ltk4, ltk5, ltk6, ltk7, ltk8, ltk9, *]))
  have cc9_2 : v9.cell? ⟨v2.heap.size, 0, none⟩ = some (.int .i64 (-333334)) := (hb9.cell (p := ⟨v2.heap.size, 0, none⟩) (by first | omega | (simp [ext_size]; try omega))).trans (by (simp (maxDischargeDepth := 8) [go_sem, World.cell?_alloc_past, ltk2, ltk3, ltk4, ltk5, ltk6, ltk7, ltk8, ltk9, *]))
  have cc9_3 : v9.cell? ⟨v2.heap.size, 1, none⟩ = some (.int .i64 (-333333)) := (hb9.cell (p := ⟨v2.heap.size, 1, none⟩) (by first | omega | (simp [ext_size]; try omega))).trans (by (simp (maxDischargeDepth := 8) [go_sem, World.cell?_alloc_past, ltk2, ltk3, ltk4, ltk5, ltk6, ltk7, ltk8, ltk9, *]))
  have cc9_4 : v9.cell? ⟨v3.heap.size, 0, none⟩ = some (.int .i64 (-111112)) := (hb9.cell (p := ⟨v3.heap.size, 0, none⟩) (by first | omega | (simp [ext_size]; try omega))).trans (by (simp (maxDischargeDepth := 8) [go_sem, World.cell?_alloc_past, ltk2, ltk3, ltk4, ltk5, ltk6, ltk7, ltk8, ltk9, *]))
  have cc9_5 : v9.cell? ⟨v3.heap.size, 1, none⟩ = some (.int .i64 (-111110)) := (hb9.cell (p := ⟨v3.heap.size, 1, none⟩) (by first | omega | (simp [ext_size]; try omega))).trans (by (simp (maxDischargeDepth := 8) [go_sem, World.cell?_alloc_past, ltk2, ltk3, ltk4, ltk5, ltk6, ltk7, ltk8, ltk9, *]))
  have zl9_0 : v1.heap.size < v9.heap.size := by omega
  have zl9_1 : v2.heap.size < v9.heap.size := by omega
  have zl9_2 : v3.heap.size < v9.heap.size := by omega
  have hB9 : Below w.heap.size w v9 := Below.trans (by (repeat (first | with_reducible exact hB8 | (with_reducible refine bext ?_ _ _) | (with_reducible refine below_drewN ?_ _) | (with_reducible refine Below.drew ?_) | (with_reducible refine bal ?_ _) | (with_reducible refine bset ?_ (by first | omega | (simp <;> omega)) _)))) (hb9.mono (by first | omega | (simp [ext_size]; try omega)))
  clear hb9
  go_wp2_with fail
  refine (B5 _).mono ?_
  rintro e v10 ⟨rfl, hb10⟩
  have zz10 := hb10.size
  try simp [ext_size] at zz10
  have cc10_0 : v10.cell? ⟨v1.heap.size, 0, none⟩ = some (.int .i64 333333) := (hb10.cell (p := ⟨v1.heap.size, 0, none⟩) (by first | omega | (simp [ext_size]; try omega))).trans (by (simp (maxDischargeDepth := 8) [go_sem, World.cell?_alloc_past, ltk2, ltk3, ltk4, ltk5, ltk6, ltk7, ltk8, ltk9, *]))
  have cc10_1 : v10.cell? ⟨v1.heap.size, 1, none⟩ = some (.int .i64 333334) := (hb10.cell (p := ⟨v1.heap.size, 1, none⟩) (by first | omega | (simp [ext_size]; try omega))).trans (by (simp (maxDischargeDepth := 8) [go_sem, World.cell?_alloc_past, ltk2, ltk3, ltk4, ltk5, ltk6, ltk7, ltk8, ltk9, *]))
  have cc10_2 : v10.cell? ⟨v2.heap.size, 0, none⟩ = some (.int .i64 (-333334)) := (hb10.cell (p := ⟨v2.heap.size, 0, none⟩) (by first | omega | (simp [ext_size]; try omega))).trans (by (simp (maxDischargeDepth := 8) [go_sem, World.cell?_alloc_past, ltk2, ltk3, ltk4, ltk5, ltk6, ltk7, ltk8, ltk9, *]))
  have cc10_3 : v10.cell? ⟨v2.heap.size, 1, none⟩ = some (.int .i64 (-333333)) := (hb10.cell (p := ⟨v2.heap.size, 1, none⟩) (by first | omega | (simp [ext_size]; try omega))).trans (by (simp (maxDischargeDepth := 8) [go_sem, World.cell?_alloc_past, ltk2, ltk3, ltk4, ltk5, ltk6, ltk7, ltk8, ltk9, *]))
  have cc10_4 : v10.cell? ⟨v3.heap.size, 0, none⟩ = some (.int .i64 (-111112)) := (hb10.cell (p := ⟨v3.heap.size, 0, none⟩) (by first | omega | (simp [ext_size]; try omega))).trans (by (simp (maxDischargeDepth := 8) [go_sem, World.cell?_alloc_past, ltk2, ltk3, ltk4, ltk5, ltk6, ltk7, ltk8, ltk9, *]))
  have cc10_5 : v10.cell? ⟨v3.heap.size, 1, none⟩ = some (.int .i64 (-111110)) := (hb10.cell (p := ⟨v3.heap.size, 1, none⟩) (by first | omega | (simp [ext_size]; try omega))).trans (by (simp (maxDischargeDepth := 8) [go_sem, World.cell?_alloc_past, ltk2, ltk3, ltk4, ltk5, ltk6, ltk7, ltk8, ltk9, *]))
  have zl10_0 : v1.heap.size < v10.heap.size := by omega
  have zl10_1 : v2.heap.size < v10.heap.size := by omega
  have zl10_2 : v3.heap.size < v10.heap.size := by omega
  have hB10 : Below w.heap.size w v10 := Below.trans (by (repeat (first | with_reducible exact hB9 | (with_reducible refine bext ?_ _ _) | (with_reducible refine below_drewN ?_ _) | (with_reducible refine Below.drew ?_) | (with_reducible refine bal ?_ _) | (with_reducible refine bset ?_ (by first | omega | (simp <;> omega)) _)))) (hb10.mono (by first | omega | (simp [ext_size]; try omega)))
  clear hb10
  go_wp2_with fail
  refine (B6 _).mono ?_
  rintro e v11 ⟨rfl, hb11⟩
  have zz11 := hb11.size
  try simp [ext_size] at zz11
  have cc11_0 : v11.cell? ⟨v1.heap.size, 0, none⟩ = some (.int .i64 333333) := (hb11.cell (p := ⟨v1.heap.size, 0, none⟩) (by first | omega | (simp [ext_size]; try omega))).trans (by (simp (maxDischargeDepth := 8) [go_sem, World.cell?_alloc_past, ltk2, ltk3, ltk4, ltk5, ltk6, ltk7, ltk8, ltk9, *]))
  have cc11_1 : v11.cell? ⟨v1.heap.size, 1, none⟩ = some (.int .i64 333334) := (hb11.cell (p := ⟨v1.heap.size, 1, none⟩) (by first | omega | (simp [ext_size]; try omega))).trans (by (simp (maxDischargeDepth := 8) [go_sem, World.cell?_alloc_past, ltk2, ltk3, ltk4, ltk5, ltk6, ltk7, ltk8, ltk9, *]))
  have cc11_2 : v11.cell? ⟨v2.heap.size, 0, none⟩ = some (.int .i64 (-333334)) := (hb11.cell (p := ⟨v2.heap.size, 0, none⟩) (by first | omega | (simp [ext_size]; try omega))).trans (by (simp (maxDischargeDepth := 8) [go_sem, World.cell?_alloc_past, ltk2, ltk3, ltk4, ltk5, ltk6, ltk7, ltk8, ltk9, *]))
  have cc11_3 : v11.cell? ⟨v2.heap.size, 1, none⟩ = some (.int .i64 (-333333)) := (hb11.cell (p := ⟨v2.heap.size, 1, none⟩) (by first | omega | (simp [ext_size]; try omega))).trans (by (simp (maxDischargeDepth := 8) [go_sem, World.cell?_alloc_past, ltk2, ltk3, ltk4, ltk5, ltk6, ltk7, ltk8, ltk9, *]))
  have cc11_4 : v11.cell? ⟨v3.heap.size, 0, none⟩ = some (.int .i64 (-111112)) := (hb11.cell (p := ⟨v3.heap.size, 0, none⟩) (by first | omega | (simp [ext_size]; try omega))).trans (by (simp (maxDischargeDepth := 8) [go_sem, World.cell?_alloc_past, ltk2, ltk3, ltk4, ltk5, ltk6, ltk7, ltk8, ltk9, *]))
  have cc11_5 : v11.cell? ⟨v3.heap.size, 1, none⟩ = some (.int .i64 (-111110)) := (hb11.cell (p := ⟨v3.heap.size, 1, none⟩) (by first | omega | (simp [ext_size]; try omega))).trans (by (simp (maxDischargeDepth := 8) [go_sem, World.cell?_alloc_past, ltk2, ltk3, ltk4, ltk5, ltk6, ltk7, ltk8, ltk9, *]))
  have zl11_0 : v1.heap.size < v11.heap.size := by omega
  have zl11_1 : v2.heap.size < v11.heap.size := by omega
  have zl11_2 : v3.heap.size < v11.heap.size := by omega
  have hB11 : Below w.heap.size w v11 := Below.trans (by (repeat (first | with_reducible exact hB10 | (with_reducible refine bext ?_ _ _) | (with_reducible refine below_drewN ?_ _) | (with_reducible refine Below.drew ?_) | (with_reducible refine bal ?_ _) | (with_reducible refine bset ?_ (by first | omega | (simp <;> omega)) _)))) (hb11.mono (by first | omega | (simp [ext_size]; try omega)))
  clear hb11
  go_wp2_with fail
  refine (B7 _).mono ?_
  rintro e v12 ⟨rfl, hb12⟩
  have zz12 := hb12.size
  try simp [ext_size] at zz12
  have cc12_0 : v12.cell? ⟨v1.heap.size, 0, none⟩ = some (.int .i64 333333) := (hb12.cell (p := ⟨v1.heap.size, 0, none⟩) (by first | omega | (simp [ext_size]; try omega))).trans (by (simp (maxDischargeDepth := 8) [go_sem, World.cell?_alloc_past, ltk2, ltk3, ltk4, ltk5, ltk6, ltk7, ltk8, ltk9, *]))
  have cc12_1 : v12.cell? ⟨v1.heap.size, 1, none⟩ = some (.int .i64 333334) := (hb12.cell (p := ⟨v1.heap.size, 1, none⟩) (by first | omega | (simp [ext_size]; try omega))).trans (by (simp (maxDischargeDepth := 8) [go_sem, World.cell?_alloc_past, ltk2, ltk3, ltk4, ltk5, ltk6, ltk7, ltk8, ltk9, *]))
  have cc12_2 : v12.cell? ⟨v2.heap.size, 0, none⟩ = some (.int .i64 (-333334)) := (hb12.cell (p := ⟨v2.heap.size, 0, none⟩) (by first | omega | (simp [ext_size]; try omega))).trans (by (simp (maxDischargeDepth := 8) [go_sem, World.cell?_alloc_past, ltk2, ltk3, ltk4, ltk5, ltk6, ltk7, ltk8, ltk9, *]))
  have cc12_3 : v12.cell? ⟨v2.heap.size, 1, none⟩ = some (.int .i64 (-333333)) := (hb12.cell (p := ⟨v2.heap.size, 1, none⟩) (by first | omega | (simp [ext_size]; try omega))).trans (by (simp (maxDischargeDepth := 8) [go_sem, World.cell?_alloc_past, ltk2, ltk3, ltk4, ltk5, ltk6, ltk7, ltk8, ltk9, *]))
  have cc12_4 : v12.cell? ⟨v3.heap.size, 0, none⟩ = some (.int .i64 (-111112)) := (hb12.cell (p := ⟨v3.heap.size, 0, none⟩) (by first | omega | (simp [ext_size]; try omega))).trans (by (simp (maxDischargeDepth := 8) [go_sem, World.cell?_alloc_past, ltk2, ltk3, ltk4, ltk5, ltk6, ltk7, ltk8, ltk9, *]))
  have cc12_5 : v12.cell? ⟨v3.heap.size, 1, none⟩ = some (.int .i64 (-111110)) := (hb12.cell (p := ⟨v3.heap.size, 1, none⟩) (by first | omega | (simp [ext_size]; try omega))).trans (by (simp (maxDischargeDepth := 8) [go_sem, World.cell?_alloc_past, ltk2, ltk3, ltk4, ltk5, ltk6, ltk7, ltk8, ltk9, *]))
  have zl12_0 : v1.heap.size < v12.heap.size := by omega
  have zl12_1 : v2.heap.size < v12.heap.size := by omega
  have zl12_2 : v3.heap.size < v12.heap.size := by omega
  have hB12 : Below w.heap.size w v12 := Below.trans (by (repeat (first | with_reducible exact hB11 | (with_reducible refine bext ?_ _ _) | (with_reducible refine below_drewN ?_ _) | (with_reducible refine Below.drew ?_) | (with_reducible refine bal ?_ _) | (with_reducible refine bset ?_ (by first | omega | (simp <;> omega)) _)))) (hb12.mono (by first | omega | (simp [ext_size]; try omega)))
  clear hb12
  go_wp2
  go_ret
  exact ⟨rfl, by (repeat (first | with_reducible exact hB12 | (with_reducible refine bext ?_ _ _) | (with_reducible refine below_drewN ?_ _) | (with_reducible refine Below.drew ?_) | (with_reducible refine bal ?_ _) | (with_reducible refine bset ?_ (by first | omega | (simp <;> omega)) _)))⟩

set_option maxHeartbeats 400000 in
theorem law5_common (a b c d : Int) (w : World) :
    Calls Try.prog 30 #[.agg #[.int .i64 a, .int .i64 b], .agg #[.int .i64 c, .int .i64 d]] w fun x w' => x = .returned (.bool (decide (a ≤ d ∧ c ≤ b))) ∧ Below w.heap.size w w' := by
  have dAl := dAl; have dSt := dSt; have xC := ext_cell; have xF := ext_frozen; have xS := ext_set; have xN := ext_drewN; have xD := ext_drew; have xL := ext_lt; have xE := ext_ne; have xG := ext_nr; have xX := ext_ext; have xL1 := ext_lt1; have xL2 := ext_lt2; have xL3 := ext_lt3; have xM0 := ext_le0; have xM1 := ext_le1; have xM2 := ext_le2
  go_enter Try.func30, Try.ntmps30
  go_wp2
  all_goals go_ret
  all_goals exact ⟨ret_sb (by simp [*] <;> omega), by (repeat (first | with_reducible exact b0 _ | (with_reducible refine bext ?_ _ _) | (with_reducible refine below_drewN ?_ _) | (with_reducible refine Below.drew ?_) | (with_reducible refine bal ?_ _)))⟩
end Go.Proofs.Ytilcgbloangcmaa
