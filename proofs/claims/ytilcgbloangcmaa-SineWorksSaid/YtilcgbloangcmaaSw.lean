/-
  SineWorks, walked.
-/
import Derived.Test.YtilcgbloangcmaaSg
namespace Go.Proofs.Ytilcgbloangcmaa
open Go.RowKit
set_option linter.unusedVariables false
set_option linter.unusedSimpArgs false

set_option maxRecDepth 100000 in
set_option maxHeartbeats 3200000 in
theorem works5 (a b c d n m : Int) (h1 : -9223372036854775808 ≤ n) (h2 : n ≤ 9223372036854775807) (h3 : -9223372036854775808 ≤ m) (h4 : m ≤ 9223372036854775807) (w : World) :
    Calls Try.prog 5 #[.agg #[.int .i64 a, .int .i64 b], .agg #[.int .i64 c, .int .i64 d], .agg #[.int .i64 n, .int .i64 m]] w fun e w' => e = .returned (.bool true) ∧ Below w.heap.size w w' := by
  have A1 := fun w => sine_Add a b c d w
  have A2 := fun w => ref5_Add a b c d w
  have A3 := fun w => sine_Sub a b c d w
  have A4 := fun w => ref5_Sub a b c d w
  have A5 := fun w => sine_Mul a b c d w
  have A6 := fun w => ref5_Mul a b c d w
  have A7 := fun w => sine_Of n m h1 h2 h3 h4 w
  have A8 := fun w => ref5_Of n m h1 h2 h3 h4 w
  have A9 := fun w => sine_Has a b n m h1 h2 h3 h4 w
  have B1 := fun w => ref5_Has a b n m h1 h2 h3 h4 w
  have B2 := fun w => sine_Sign a b w
  have B3 := fun w => ref5_Sign a b w
  generalize saL a b c d = x0 at *
  generalize saH a b c d = y0 at *
  generalize saE a b c d = z0 at *
  generalize ssL a b c d = x1 at *
  generalize ssH a b c d = y1 at *
  generalize ssE a b c d = z1 at *
  generalize smL a b c d = x2 at *
  generalize smH a b c d = y2 at *
  generalize smE a b c d = z2 at *
  generalize ovL n m = x3 at *
  generalize ovH n m = y3 at *
  generalize ovE n m = z3 at *
  generalize haV a b n m = u1 at *
  generalize haE a b n m = u2 at *
  generalize sgV a b = u3 at *
  generalize sgE a b = u4 at *
  clear h1 h2 h3 h4
  have dAl := dAl; have dSt := dSt; have xC := ext_cell; have xF := ext_frozen; have xS := ext_set; have xN := ext_drewN; have xD := ext_drew; have xL := ext_lt; have xE := ext_ne; have xG := ext_nr; have xX := ext_ext; have xL1 := ext_lt1; have xL2 := ext_lt2; have xL3 := ext_lt3; have xM0 := ext_le0; have xM1 := ext_le1; have xM2 := ext_le2
  go_enter Try.func5, Try.ntmps5
  go_wp2_with fail
  refine (A1 _).mono ?_
  rintro e v1 ⟨rfl, hb1⟩
  have zz1 := hb1.size
  try simp [ext_size] at zz1
  have cc1_0 : v1.cell? ⟨w.heap.size, 0, none⟩ = some (.int .i64 a) := (hb1.cell (p := ⟨w.heap.size, 0, none⟩) (by first | omega | (simp [ext_size]; try omega))).trans (by (simp (maxDischargeDepth := 8) [go_sem, World.cell?_alloc_past, ltk2, ltk3, ltk4, ltk5, ltk6, ltk7, ltk8, ltk9, *]))
  have cc1_1 : v1.cell? ⟨w.heap.size, 1, none⟩ = some (.int .i64 b) := (hb1.cell (p := ⟨w.heap.size, 1, none⟩) (by first | omega | (simp [ext_size]; try omega))).trans (by (simp (maxDischargeDepth := 8) [go_sem, World.cell?_alloc_past, ltk2, ltk3, ltk4, ltk5, ltk6, ltk7, ltk8, ltk9, *]))
  have cc1_2 : v1.cell? ⟨w.heap.size + 1, 0, none⟩ = some (.int .i64 c) := (hb1.cell (p := ⟨w.heap.size + 1, 0, none⟩) (by first | omega | (simp [ext_size]; try omega))).trans (by (simp (maxDischargeDepth := 8) [go_sem, World.cell?_alloc_past, ltk2, ltk3, ltk4, ltk5, ltk6, ltk7, ltk8, ltk9, *]))
  have cc1_3 : v1.cell? ⟨w.heap.size + 1, 1, none⟩ = some (.int .i64 d) := (hb1.cell (p := ⟨w.heap.size + 1, 1, none⟩) (by first | omega | (simp [ext_size]; try omega))).trans (by (simp (maxDischargeDepth := 8) [go_sem, World.cell?_alloc_past, ltk2, ltk3, ltk4, ltk5, ltk6, ltk7, ltk8, ltk9, *]))
  have cc1_4 : v1.cell? ⟨w.heap.size + 1 + 1, 0, none⟩ = some (.int .i64 n) := (hb1.cell (p := ⟨w.heap.size + 1 + 1, 0, none⟩) (by first | omega | (simp [ext_size]; try omega))).trans (by (simp (maxDischargeDepth := 8) [go_sem, World.cell?_alloc_past, ltk2, ltk3, ltk4, ltk5, ltk6, ltk7, ltk8, ltk9, *]))
  have cc1_5 : v1.cell? ⟨w.heap.size + 1 + 1, 1, none⟩ = some (.int .i64 m) := (hb1.cell (p := ⟨w.heap.size + 1 + 1, 1, none⟩) (by first | omega | (simp [ext_size]; try omega))).trans (by (simp (maxDischargeDepth := 8) [go_sem, World.cell?_alloc_past, ltk2, ltk3, ltk4, ltk5, ltk6, ltk7, ltk8, ltk9, *]))
  have zl1_0 : w.heap.size < v1.heap.size := by omega
  have zl1_1 : w.heap.size + 1 < v1.heap.size := by omega
  have zl1_2 : w.heap.size + 1 + 1 < v1.heap.size := by omega
  have hB1 : Below w.heap.size w v1 := Below.trans (by (repeat (first | with_reducible exact b0 _ | (with_reducible refine bext ?_ _ _) | (with_reducible refine below_drewN ?_ _) | (with_reducible refine Below.drew ?_) | (with_reducible refine bal ?_ _)))) (hb1.mono (by first | omega | (simp [ext_size]; try omega)))
  clear hb1
  go_wp2_with fail
  refine (A2 _).mono ?_
  rintro e v2 ⟨rfl, hb2⟩
  have zz2 := hb2.size
  try simp [ext_size] at zz2
  have cc2_0 : v2.cell? ⟨w.heap.size, 0, none⟩ = some (.int .i64 a) := (hb2.cell (p := ⟨w.heap.size, 0, none⟩) (by first | omega | (simp [ext_size]; try omega))).trans (by (simp (maxDischargeDepth := 8) [go_sem, World.cell?_alloc_past, ltk2, ltk3, ltk4, ltk5, ltk6, ltk7, ltk8, ltk9, *]))
  have cc2_1 : v2.cell? ⟨w.heap.size, 1, none⟩ = some (.int .i64 b) := (hb2.cell (p := ⟨w.heap.size, 1, none⟩) (by first | omega | (simp [ext_size]; try omega))).trans (by (simp (maxDischargeDepth := 8) [go_sem, World.cell?_alloc_past, ltk2, ltk3, ltk4, ltk5, ltk6, ltk7, ltk8, ltk9, *]))
  have cc2_2 : v2.cell? ⟨w.heap.size + 1, 0, none⟩ = some (.int .i64 c) := (hb2.cell (p := ⟨w.heap.size + 1, 0, none⟩) (by first | omega | (simp [ext_size]; try omega))).trans (by (simp (maxDischargeDepth := 8) [go_sem, World.cell?_alloc_past, ltk2, ltk3, ltk4, ltk5, ltk6, ltk7, ltk8, ltk9, *]))
  have cc2_3 : v2.cell? ⟨w.heap.size + 1, 1, none⟩ = some (.int .i64 d) := (hb2.cell (p := ⟨w.heap.size + 1, 1, none⟩) (by first | omega | (simp [ext_size]; try omega))).trans (by (simp (maxDischargeDepth := 8) [go_sem, World.cell?_alloc_past, ltk2, ltk3, ltk4, ltk5, ltk6, ltk7, ltk8, ltk9, *]))
  have cc2_4 : v2.cell? ⟨w.heap.size + 1 + 1, 0, none⟩ = some (.int .i64 n) := (hb2.cell (p := ⟨w.heap.size + 1 + 1, 0, none⟩) (by first | omega | (simp [ext_size]; try omega))).trans (by (simp (maxDischargeDepth := 8) [go_sem, World.cell?_alloc_past, ltk2, ltk3, ltk4, ltk5, ltk6, ltk7, ltk8, ltk9, *]))
  have cc2_5 : v2.cell? ⟨w.heap.size + 1 + 1, 1, none⟩ = some (.int .i64 m) := (hb2.cell (p := ⟨w.heap.size + 1 + 1, 1, none⟩) (by first | omega | (simp [ext_size]; try omega))).trans (by (simp (maxDischargeDepth := 8) [go_sem, World.cell?_alloc_past, ltk2, ltk3, ltk4, ltk5, ltk6, ltk7, ltk8, ltk9, *]))
  have cc2_6 : v2.cell? ⟨v1.heap.size, 0, none⟩ = some (.int .i64 x0) := (hb2.cell (p := ⟨v1.heap.size, 0, none⟩) (by first | omega | (simp [ext_size]; try omega))).trans (by (simp (maxDischargeDepth := 8) [go_sem, World.cell?_alloc_past, ltk2, ltk3, ltk4, ltk5, ltk6, ltk7, ltk8, ltk9, *]))
  have cc2_7 : v2.cell? ⟨v1.heap.size, 1, none⟩ = some (.int .i64 y0) := (hb2.cell (p := ⟨v1.heap.size, 1, none⟩) (by first | omega | (simp [ext_size]; try omega))).trans (by (simp (maxDischargeDepth := 8) [go_sem, World.cell?_alloc_past, ltk2, ltk3, ltk4, ltk5, ltk6, ltk7, ltk8, ltk9, *]))
  have zl2_0 : w.heap.size < v2.heap.size := by omega
  have zl2_1 : w.heap.size + 1 < v2.heap.size := by omega
  have zl2_2 : w.heap.size + 1 + 1 < v2.heap.size := by omega
  have zl2_3 : v1.heap.size < v2.heap.size := by omega
  have hB2 : Below w.heap.size w v2 := Below.trans (by (repeat (first | with_reducible exact hB1 | (with_reducible refine bext ?_ _ _) | (with_reducible refine below_drewN ?_ _) | (with_reducible refine Below.drew ?_) | (with_reducible refine bal ?_ _) | (with_reducible refine bset ?_ (by first | omega | (simp <;> omega)) _)))) (hb2.mono (by first | omega | (simp [ext_size]; try omega)))
  clear hb2
  go_wp2_with fail
  refine (A3 _).mono ?_
  rintro e v3 ⟨rfl, hb3⟩
  have zz3 := hb3.size
  try simp [ext_size] at zz3
  have cc3_0 : v3.cell? ⟨w.heap.size, 0, none⟩ = some (.int .i64 a) := (hb3.cell (p := ⟨w.heap.size, 0, none⟩) (by first | omega | (simp [ext_size]; try omega))).trans (by (simp (maxDischargeDepth := 8) [go_sem, World.cell?_alloc_past, ltk2, ltk3, ltk4, ltk5, ltk6, ltk7, ltk8, ltk9, *]))
  have cc3_1 : v3.cell? ⟨w.heap.size, 1, none⟩ = some (.int .i64 b) := (hb3.cell (p := ⟨w.heap.size, 1, none⟩) (by first | omega | (simp [ext_size]; try omega))).trans (by (simp (maxDischargeDepth := 8) [go_sem, World.cell?_alloc_past, ltk2, ltk3, ltk4, ltk5, ltk6, ltk7, ltk8, ltk9, *]))
  have cc3_2 : v3.cell? ⟨w.heap.size + 1, 0, none⟩ = some (.int .i64 c) := (hb3.cell (p := ⟨w.heap.size + 1, 0, none⟩) (by first | omega | (simp [ext_size]; try omega))).trans (by (simp (maxDischargeDepth := 8) [go_sem, World.cell?_alloc_past, ltk2, ltk3, ltk4, ltk5, ltk6, ltk7, ltk8, ltk9, *]))
  have cc3_3 : v3.cell? ⟨w.heap.size + 1, 1, none⟩ = some (.int .i64 d) := (hb3.cell (p := ⟨w.heap.size + 1, 1, none⟩) (by first | omega | (simp [ext_size]; try omega))).trans (by (simp (maxDischargeDepth := 8) [go_sem, World.cell?_alloc_past, ltk2, ltk3, ltk4, ltk5, ltk6, ltk7, ltk8, ltk9, *]))
  have cc3_4 : v3.cell? ⟨w.heap.size + 1 + 1, 0, none⟩ = some (.int .i64 n) := (hb3.cell (p := ⟨w.heap.size + 1 + 1, 0, none⟩) (by first | omega | (simp [ext_size]; try omega))).trans (by (simp (maxDischargeDepth := 8) [go_sem, World.cell?_alloc_past, ltk2, ltk3, ltk4, ltk5, ltk6, ltk7, ltk8, ltk9, *]))
  have cc3_5 : v3.cell? ⟨w.heap.size + 1 + 1, 1, none⟩ = some (.int .i64 m) := (hb3.cell (p := ⟨w.heap.size + 1 + 1, 1, none⟩) (by first | omega | (simp [ext_size]; try omega))).trans (by (simp (maxDischargeDepth := 8) [go_sem, World.cell?_alloc_past, ltk2, ltk3, ltk4, ltk5, ltk6, ltk7, ltk8, ltk9, *]))
  have cc3_6 : v3.cell? ⟨v1.heap.size, 0, none⟩ = some (.int .i64 x0) := (hb3.cell (p := ⟨v1.heap.size, 0, none⟩) (by first | omega | (simp [ext_size]; try omega))).trans (by (simp (maxDischargeDepth := 8) [go_sem, World.cell?_alloc_past, ltk2, ltk3, ltk4, ltk5, ltk6, ltk7, ltk8, ltk9, *]))
  have cc3_7 : v3.cell? ⟨v1.heap.size, 1, none⟩ = some (.int .i64 y0) := (hb3.cell (p := ⟨v1.heap.size, 1, none⟩) (by first | omega | (simp [ext_size]; try omega))).trans (by (simp (maxDischargeDepth := 8) [go_sem, World.cell?_alloc_past, ltk2, ltk3, ltk4, ltk5, ltk6, ltk7, ltk8, ltk9, *]))
  have cc3_8 : v3.cell? ⟨v2.heap.size, 0, none⟩ = some (.int .i64 x0) := (hb3.cell (p := ⟨v2.heap.size, 0, none⟩) (by first | omega | (simp [ext_size]; try omega))).trans (by (simp (maxDischargeDepth := 8) [go_sem, World.cell?_alloc_past, ltk2, ltk3, ltk4, ltk5, ltk6, ltk7, ltk8, ltk9, *]))
  have cc3_9 : v3.cell? ⟨v2.heap.size, 1, none⟩ = some (.int .i64 y0) := (hb3.cell (p := ⟨v2.heap.size, 1, none⟩) (by first | omega | (simp [ext_size]; try omega))).trans (by (simp (maxDischargeDepth := 8) [go_sem, World.cell?_alloc_past, ltk2, ltk3, ltk4, ltk5, ltk6, ltk7, ltk8, ltk9, *]))
  have zl3_0 : w.heap.size < v3.heap.size := by omega
  have zl3_1 : w.heap.size + 1 < v3.heap.size := by omega
  have zl3_2 : w.heap.size + 1 + 1 < v3.heap.size := by omega
  have zl3_3 : v1.heap.size < v3.heap.size := by omega
  have zl3_4 : v2.heap.size < v3.heap.size := by omega
  have hB3 : Below w.heap.size w v3 := Below.trans (by (repeat (first | with_reducible exact hB2 | (with_reducible refine bext ?_ _ _) | (with_reducible refine below_drewN ?_ _) | (with_reducible refine Below.drew ?_) | (with_reducible refine bal ?_ _) | (with_reducible refine bset ?_ (by first | omega | (simp <;> omega)) _)))) (hb3.mono (by first | omega | (simp [ext_size]; try omega)))
  clear hb3
  go_wp2_with fail
  refine (A4 _).mono ?_
  rintro e v4 ⟨rfl, hb4⟩
  have zz4 := hb4.size
  try simp [ext_size] at zz4
  have cc4_0 : v4.cell? ⟨w.heap.size, 0, none⟩ = some (.int .i64 a) := (hb4.cell (p := ⟨w.heap.size, 0, none⟩) (by first | omega | (simp [ext_size]; try omega))).trans (by (simp (maxDischargeDepth := 8) [go_sem, World.cell?_alloc_past, ltk2, ltk3, ltk4, ltk5, ltk6, ltk7, ltk8, ltk9, *]))
  have cc4_1 : v4.cell? ⟨w.heap.size, 1, none⟩ = some (.int .i64 b) := (hb4.cell (p := ⟨w.heap.size, 1, none⟩) (by first | omega | (simp [ext_size]; try omega))).trans (by (simp (maxDischargeDepth := 8) [go_sem, World.cell?_alloc_past, ltk2, ltk3, ltk4, ltk5, ltk6, ltk7, ltk8, ltk9, *]))
  have cc4_2 : v4.cell? ⟨w.heap.size + 1, 0, none⟩ = some (.int .i64 c) := (hb4.cell (p := ⟨w.heap.size + 1, 0, none⟩) (by first | omega | (simp [ext_size]; try omega))).trans (by (simp (maxDischargeDepth := 8) [go_sem, World.cell?_alloc_past, ltk2, ltk3, ltk4, ltk5, ltk6, ltk7, ltk8, ltk9, *]))
  have cc4_3 : v4.cell? ⟨w.heap.size + 1, 1, none⟩ = some (.int .i64 d) := (hb4.cell (p := ⟨w.heap.size + 1, 1, none⟩) (by first | omega | (simp [ext_size]; try omega))).trans (by (simp (maxDischargeDepth := 8) [go_sem, World.cell?_alloc_past, ltk2, ltk3, ltk4, ltk5, ltk6, ltk7, ltk8, ltk9, *]))
  have cc4_4 : v4.cell? ⟨w.heap.size + 1 + 1, 0, none⟩ = some (.int .i64 n) := (hb4.cell (p := ⟨w.heap.size + 1 + 1, 0, none⟩) (by first | omega | (simp [ext_size]; try omega))).trans (by (simp (maxDischargeDepth := 8) [go_sem, World.cell?_alloc_past, ltk2, ltk3, ltk4, ltk5, ltk6, ltk7, ltk8, ltk9, *]))
  have cc4_5 : v4.cell? ⟨w.heap.size + 1 + 1, 1, none⟩ = some (.int .i64 m) := (hb4.cell (p := ⟨w.heap.size + 1 + 1, 1, none⟩) (by first | omega | (simp [ext_size]; try omega))).trans (by (simp (maxDischargeDepth := 8) [go_sem, World.cell?_alloc_past, ltk2, ltk3, ltk4, ltk5, ltk6, ltk7, ltk8, ltk9, *]))
  have cc4_6 : v4.cell? ⟨v1.heap.size, 0, none⟩ = some (.int .i64 x0) := (hb4.cell (p := ⟨v1.heap.size, 0, none⟩) (by first | omega | (simp [ext_size]; try omega))).trans (by (simp (maxDischargeDepth := 8) [go_sem, World.cell?_alloc_past, ltk2, ltk3, ltk4, ltk5, ltk6, ltk7, ltk8, ltk9, *]))
  have cc4_7 : v4.cell? ⟨v1.heap.size, 1, none⟩ = some (.int .i64 y0) := (hb4.cell (p := ⟨v1.heap.size, 1, none⟩) (by first | omega | (simp [ext_size]; try omega))).trans (by (simp (maxDischargeDepth := 8) [go_sem, World.cell?_alloc_past, ltk2, ltk3, ltk4, ltk5, ltk6, ltk7, ltk8, ltk9, *]))
  have cc4_8 : v4.cell? ⟨v2.heap.size, 0, none⟩ = some (.int .i64 x0) := (hb4.cell (p := ⟨v2.heap.size, 0, none⟩) (by first | omega | (simp [ext_size]; try omega))).trans (by (simp (maxDischargeDepth := 8) [go_sem, World.cell?_alloc_past, ltk2, ltk3, ltk4, ltk5, ltk6, ltk7, ltk8, ltk9, *]))
  have cc4_9 : v4.cell? ⟨v2.heap.size, 1, none⟩ = some (.int .i64 y0) := (hb4.cell (p := ⟨v2.heap.size, 1, none⟩) (by first | omega | (simp [ext_size]; try omega))).trans (by (simp (maxDischargeDepth := 8) [go_sem, World.cell?_alloc_past, ltk2, ltk3, ltk4, ltk5, ltk6, ltk7, ltk8, ltk9, *]))
  have cc4_10 : v4.cell? ⟨v3.heap.size, 0, none⟩ = some (.int .i64 x1) := (hb4.cell (p := ⟨v3.heap.size, 0, none⟩) (by first | omega | (simp [ext_size]; try omega))).trans (by (simp (maxDischargeDepth := 8) [go_sem, World.cell?_alloc_past, ltk2, ltk3, ltk4, ltk5, ltk6, ltk7, ltk8, ltk9, *]))
  have cc4_11 : v4.cell? ⟨v3.heap.size, 1, none⟩ = some (.int .i64 y1) := (hb4.cell (p := ⟨v3.heap.size, 1, none⟩) (by first | omega | (simp [ext_size]; try omega))).trans (by (simp (maxDischargeDepth := 8) [go_sem, World.cell?_alloc_past, ltk2, ltk3, ltk4, ltk5, ltk6, ltk7, ltk8, ltk9, *]))
  have zl4_0 : w.heap.size < v4.heap.size := by omega
  have zl4_1 : w.heap.size + 1 < v4.heap.size := by omega
  have zl4_2 : w.heap.size + 1 + 1 < v4.heap.size := by omega
  have zl4_3 : v1.heap.size < v4.heap.size := by omega
  have zl4_4 : v2.heap.size < v4.heap.size := by omega
  have zl4_5 : v3.heap.size < v4.heap.size := by omega
  have hB4 : Below w.heap.size w v4 := Below.trans (by (repeat (first | with_reducible exact hB3 | (with_reducible refine bext ?_ _ _) | (with_reducible refine below_drewN ?_ _) | (with_reducible refine Below.drew ?_) | (with_reducible refine bal ?_ _) | (with_reducible refine bset ?_ (by first | omega | (simp <;> omega)) _)))) (hb4.mono (by first | omega | (simp [ext_size]; try omega)))
  clear hb4
  go_wp2_with fail
  refine (A5 _).mono ?_
  rintro e v5 ⟨rfl, hb5⟩
  have zz5 := hb5.size
  try simp [ext_size] at zz5
  have cc5_0 : v5.cell? ⟨w.heap.size, 0, none⟩ = some (.int .i64 a) := (hb5.cell (p := ⟨w.heap.size, 0, none⟩) (by first | omega | (simp [ext_size]; try omega))).trans (by (simp (maxDischargeDepth := 8) [go_sem, World.cell?_alloc_past, ltk2, ltk3, ltk4, ltk5, ltk6, ltk7, ltk8, ltk9, *]))
  have cc5_1 : v5.cell? ⟨w.heap.size, 1, none⟩ = some (.int .i64 b) := (hb5.cell (p := ⟨w.heap.size, 1, none⟩) (by first | omega | (simp [ext_size]; try omega))).trans (by (simp (maxDischargeDepth := 8) [go_sem, World.cell?_alloc_past, ltk2, ltk3, ltk4, ltk5, ltk6, ltk7, ltk8, ltk9, *]))
  have cc5_2 : v5.cell? ⟨w.heap.size + 1, 0, none⟩ = some (.int .i64 c) := (hb5.cell (p := ⟨w.heap.size + 1, 0, none⟩) (by first | omega | (simp [ext_size]; try omega))).trans (by (simp (maxDischargeDepth := 8) [go_sem, World.cell?_alloc_past, ltk2, ltk3, ltk4, ltk5, ltk6, ltk7, ltk8, ltk9, *]))
  have cc5_3 : v5.cell? ⟨w.heap.size + 1, 1, none⟩ = some (.int .i64 d) := (hb5.cell (p := ⟨w.heap.size + 1, 1, none⟩) (by first | omega | (simp [ext_size]; try omega))).trans (by (simp (maxDischargeDepth := 8) [go_sem, World.cell?_alloc_past, ltk2, ltk3, ltk4, ltk5, ltk6, ltk7, ltk8, ltk9, *]))
  have cc5_4 : v5.cell? ⟨w.heap.size + 1 + 1, 0, none⟩ = some (.int .i64 n) := (hb5.cell (p := ⟨w.heap.size + 1 + 1, 0, none⟩) (by first | omega | (simp [ext_size]; try omega))).trans (by (simp (maxDischargeDepth := 8) [go_sem, World.cell?_alloc_past, ltk2, ltk3, ltk4, ltk5, ltk6, ltk7, ltk8, ltk9, *]))
  have cc5_5 : v5.cell? ⟨w.heap.size + 1 + 1, 1, none⟩ = some (.int .i64 m) := (hb5.cell (p := ⟨w.heap.size + 1 + 1, 1, none⟩) (by first | omega | (simp [ext_size]; try omega))).trans (by (simp (maxDischargeDepth := 8) [go_sem, World.cell?_alloc_past, ltk2, ltk3, ltk4, ltk5, ltk6, ltk7, ltk8, ltk9, *]))
  have cc5_6 : v5.cell? ⟨v1.heap.size, 0, none⟩ = some (.int .i64 x0) := (hb5.cell (p := ⟨v1.heap.size, 0, none⟩) (by first | omega | (simp [ext_size]; try omega))).trans (by (simp (maxDischargeDepth := 8) [go_sem, World.cell?_alloc_past, ltk2, ltk3, ltk4, ltk5, ltk6, ltk7, ltk8, ltk9, *]))
  have cc5_7 : v5.cell? ⟨v1.heap.size, 1, none⟩ = some (.int .i64 y0) := (hb5.cell (p := ⟨v1.heap.size, 1, none⟩) (by first | omega | (simp [ext_size]; try omega))).trans (by (simp (maxDischargeDepth := 8) [go_sem, World.cell?_alloc_past, ltk2, ltk3, ltk4, ltk5, ltk6, ltk7, ltk8, ltk9, *]))
  have cc5_8 : v5.cell? ⟨v2.heap.size, 0, none⟩ = some (.int .i64 x0) := (hb5.cell (p := ⟨v2.heap.size, 0, none⟩) (by first | omega | (simp [ext_size]; try omega))).trans (by (simp (maxDischargeDepth := 8) [go_sem, World.cell?_alloc_past, ltk2, ltk3, ltk4, ltk5, ltk6, ltk7, ltk8, ltk9, *]))
  have cc5_9 : v5.cell? ⟨v2.heap.size, 1, none⟩ = some (.int .i64 y0) := (hb5.cell (p := ⟨v2.heap.size, 1, none⟩) (by first | omega | (simp [ext_size]; try omega))).trans (by (simp (maxDischargeDepth := 8) [go_sem, World.cell?_alloc_past, ltk2, ltk3, ltk4, ltk5, ltk6, ltk7, ltk8, ltk9, *]))
  have cc5_10 : v5.cell? ⟨v3.heap.size, 0, none⟩ = some (.int .i64 x1) := (hb5.cell (p := ⟨v3.heap.size, 0, none⟩) (by first | omega | (simp [ext_size]; try omega))).trans (by (simp (maxDischargeDepth := 8) [go_sem, World.cell?_alloc_past, ltk2, ltk3, ltk4, ltk5, ltk6, ltk7, ltk8, ltk9, *]))
  have cc5_11 : v5.cell? ⟨v3.heap.size, 1, none⟩ = some (.int .i64 y1) := (hb5.cell (p := ⟨v3.heap.size, 1, none⟩) (by first | omega | (simp [ext_size]; try omega))).trans (by (simp (maxDischargeDepth := 8) [go_sem, World.cell?_alloc_past, ltk2, ltk3, ltk4, ltk5, ltk6, ltk7, ltk8, ltk9, *]))
  have cc5_12 : v5.cell? ⟨v4.heap.size, 0, none⟩ = some (.int .i64 x1) := (hb5.cell (p := ⟨v4.heap.size, 0, none⟩) (by first | omega | (simp [ext_size]; try omega))).trans (by (simp (maxDischargeDepth := 8) [go_sem, World.cell?_alloc_past, ltk2, ltk3, ltk4, ltk5, ltk6, ltk7, ltk8, ltk9, *]))
  have cc5_13 : v5.cell? ⟨v4.heap.size, 1, none⟩ = some (.int .i64 y1) := (hb5.cell (p := ⟨v4.heap.size, 1, none⟩) (by first | omega | (simp [ext_size]; try omega))).trans (by (simp (maxDischargeDepth := 8) [go_sem, World.cell?_alloc_past, ltk2, ltk3, ltk4, ltk5, ltk6, ltk7, ltk8, ltk9, *]))
  have zl5_0 : w.heap.size < v5.heap.size := by omega
  have zl5_1 : w.heap.size + 1 < v5.heap.size := by omega
  have zl5_2 : w.heap.size + 1 + 1 < v5.heap.size := by omega
  have zl5_3 : v1.heap.size < v5.heap.size := by omega
  have zl5_4 : v2.heap.size < v5.heap.size := by omega
  have zl5_5 : v3.heap.size < v5.heap.size := by omega
  have zl5_6 : v4.heap.size < v5.heap.size := by omega
  have hB5 : Below w.heap.size w v5 := Below.trans (by (repeat (first | with_reducible exact hB4 | (with_reducible refine bext ?_ _ _) | (with_reducible refine below_drewN ?_ _) | (with_reducible refine Below.drew ?_) | (with_reducible refine bal ?_ _) | (with_reducible refine bset ?_ (by first | omega | (simp <;> omega)) _)))) (hb5.mono (by first | omega | (simp [ext_size]; try omega)))
  clear hb5
  go_wp2_with fail
  refine (A6 _).mono ?_
  rintro e v6 ⟨rfl, hb6⟩
  have zz6 := hb6.size
  try simp [ext_size] at zz6
  have cc6_0 : v6.cell? ⟨w.heap.size, 0, none⟩ = some (.int .i64 a) := (hb6.cell (p := ⟨w.heap.size, 0, none⟩) (by first | omega | (simp [ext_size]; try omega))).trans (by (simp (maxDischargeDepth := 8) [go_sem, World.cell?_alloc_past, ltk2, ltk3, ltk4, ltk5, ltk6, ltk7, ltk8, ltk9, *]))
  have cc6_1 : v6.cell? ⟨w.heap.size, 1, none⟩ = some (.int .i64 b) := (hb6.cell (p := ⟨w.heap.size, 1, none⟩) (by first | omega | (simp [ext_size]; try omega))).trans (by (simp (maxDischargeDepth := 8) [go_sem, World.cell?_alloc_past, ltk2, ltk3, ltk4, ltk5, ltk6, ltk7, ltk8, ltk9, *]))
  have cc6_2 : v6.cell? ⟨w.heap.size + 1, 0, none⟩ = some (.int .i64 c) := (hb6.cell (p := ⟨w.heap.size + 1, 0, none⟩) (by first | omega | (simp [ext_size]; try omega))).trans (by (simp (maxDischargeDepth := 8) [go_sem, World.cell?_alloc_past, ltk2, ltk3, ltk4, ltk5, ltk6, ltk7, ltk8, ltk9, *]))
  have cc6_3 : v6.cell? ⟨w.heap.size + 1, 1, none⟩ = some (.int .i64 d) := (hb6.cell (p := ⟨w.heap.size + 1, 1, none⟩) (by first | omega | (simp [ext_size]; try omega))).trans (by (simp (maxDischargeDepth := 8) [go_sem, World.cell?_alloc_past, ltk2, ltk3, ltk4, ltk5, ltk6, ltk7, ltk8, ltk9, *]))
  have cc6_4 : v6.cell? ⟨w.heap.size + 1 + 1, 0, none⟩ = some (.int .i64 n) := (hb6.cell (p := ⟨w.heap.size + 1 + 1, 0, none⟩) (by first | omega | (simp [ext_size]; try omega))).trans (by (simp (maxDischargeDepth := 8) [go_sem, World.cell?_alloc_past, ltk2, ltk3, ltk4, ltk5, ltk6, ltk7, ltk8, ltk9, *]))
  have cc6_5 : v6.cell? ⟨w.heap.size + 1 + 1, 1, none⟩ = some (.int .i64 m) := (hb6.cell (p := ⟨w.heap.size + 1 + 1, 1, none⟩) (by first | omega | (simp [ext_size]; try omega))).trans (by (simp (maxDischargeDepth := 8) [go_sem, World.cell?_alloc_past, ltk2, ltk3, ltk4, ltk5, ltk6, ltk7, ltk8, ltk9, *]))
  have cc6_6 : v6.cell? ⟨v1.heap.size, 0, none⟩ = some (.int .i64 x0) := (hb6.cell (p := ⟨v1.heap.size, 0, none⟩) (by first | omega | (simp [ext_size]; try omega))).trans (by (simp (maxDischargeDepth := 8) [go_sem, World.cell?_alloc_past, ltk2, ltk3, ltk4, ltk5, ltk6, ltk7, ltk8, ltk9, *]))
  have cc6_7 : v6.cell? ⟨v1.heap.size, 1, none⟩ = some (.int .i64 y0) := (hb6.cell (p := ⟨v1.heap.size, 1, none⟩) (by first | omega | (simp [ext_size]; try omega))).trans (by (simp (maxDischargeDepth := 8) [go_sem, World.cell?_alloc_past, ltk2, ltk3, ltk4, ltk5, ltk6, ltk7, ltk8, ltk9, *]))
  have cc6_8 : v6.cell? ⟨v2.heap.size, 0, none⟩ = some (.int .i64 x0) := (hb6.cell (p := ⟨v2.heap.size, 0, none⟩) (by first | omega | (simp [ext_size]; try omega))).trans (by (simp (maxDischargeDepth := 8) [go_sem, World.cell?_alloc_past, ltk2, ltk3, ltk4, ltk5, ltk6, ltk7, ltk8, ltk9, *]))
  have cc6_9 : v6.cell? ⟨v2.heap.size, 1, none⟩ = some (.int .i64 y0) := (hb6.cell (p := ⟨v2.heap.size, 1, none⟩) (by first | omega | (simp [ext_size]; try omega))).trans (by (simp (maxDischargeDepth := 8) [go_sem, World.cell?_alloc_past, ltk2, ltk3, ltk4, ltk5, ltk6, ltk7, ltk8, ltk9, *]))
  have cc6_10 : v6.cell? ⟨v3.heap.size, 0, none⟩ = some (.int .i64 x1) := (hb6.cell (p := ⟨v3.heap.size, 0, none⟩) (by first | omega | (simp [ext_size]; try omega))).trans (by (simp (maxDischargeDepth := 8) [go_sem, World.cell?_alloc_past, ltk2, ltk3, ltk4, ltk5, ltk6, ltk7, ltk8, ltk9, *]))
  have cc6_11 : v6.cell? ⟨v3.heap.size, 1, none⟩ = some (.int .i64 y1) := (hb6.cell (p := ⟨v3.heap.size, 1, none⟩) (by first | omega | (simp [ext_size]; try omega))).trans (by (simp (maxDischargeDepth := 8) [go_sem, World.cell?_alloc_past, ltk2, ltk3, ltk4, ltk5, ltk6, ltk7, ltk8, ltk9, *]))
  have cc6_12 : v6.cell? ⟨v4.heap.size, 0, none⟩ = some (.int .i64 x1) := (hb6.cell (p := ⟨v4.heap.size, 0, none⟩) (by first | omega | (simp [ext_size]; try omega))).trans (by (simp (maxDischargeDepth := 8) [go_sem, World.cell?_alloc_past, ltk2, ltk3, ltk4, ltk5, ltk6, ltk7, ltk8, ltk9, *]))
  have cc6_13 : v6.cell? ⟨v4.heap.size, 1, none⟩ = some (.int .i64 y1) := (hb6.cell (p := ⟨v4.heap.size, 1, none⟩) (by first | omega | (simp [ext_size]; try omega))).trans (by (simp (maxDischargeDepth := 8) [go_sem, World.cell?_alloc_past, ltk2, ltk3, ltk4, ltk5, ltk6, ltk7, ltk8, ltk9, *]))
  have cc6_14 : v6.cell? ⟨v5.heap.size, 0, none⟩ = some (.int .i64 x2) := (hb6.cell (p := ⟨v5.heap.size, 0, none⟩) (by first | omega | (simp [ext_size]; try omega))).trans (by (simp (maxDischargeDepth := 8) [go_sem, World.cell?_alloc_past, ltk2, ltk3, ltk4, ltk5, ltk6, ltk7, ltk8, ltk9, *]))
  have cc6_15 : v6.cell? ⟨v5.heap.size, 1, none⟩ = some (.int .i64 y2) := (hb6.cell (p := ⟨v5.heap.size, 1, none⟩) (by first | omega | (simp [ext_size]; try omega))).trans (by (simp (maxDischargeDepth := 8) [go_sem, World.cell?_alloc_past, ltk2, ltk3, ltk4, ltk5, ltk6, ltk7, ltk8, ltk9, *]))
  have zl6_0 : w.heap.size < v6.heap.size := by omega
  have zl6_1 : w.heap.size + 1 < v6.heap.size := by omega
  have zl6_2 : w.heap.size + 1 + 1 < v6.heap.size := by omega
  have zl6_3 : v1.heap.size < v6.heap.size := by omega
  have zl6_4 : v2.heap.size < v6.heap.size := by omega
  have zl6_5 : v3.heap.size < v6.heap.size := by omega
  have zl6_6 : v4.heap.size < v6.heap.size := by omega
  have zl6_7 : v5.heap.size < v6.heap.size := by omega
  have hB6 : Below w.heap.size w v6 := Below.trans (by (repeat (first | with_reducible exact hB5 | (with_reducible refine bext ?_ _ _) | (with_reducible refine below_drewN ?_ _) | (with_reducible refine Below.drew ?_) | (with_reducible refine bal ?_ _) | (with_reducible refine bset ?_ (by first | omega | (simp <;> omega)) _)))) (hb6.mono (by first | omega | (simp [ext_size]; try omega)))
  clear hb6
  go_wp2_with fail
  refine (A7 _).mono ?_
  rintro e v7 ⟨rfl, hb7⟩
  have zz7 := hb7.size
  try simp [ext_size] at zz7
  have cc7_0 : v7.cell? ⟨w.heap.size, 0, none⟩ = some (.int .i64 a) := (hb7.cell (p := ⟨w.heap.size, 0, none⟩) (by first | omega | (simp [ext_size]; try omega))).trans (by (simp (maxDischargeDepth := 8) [go_sem, World.cell?_alloc_past, ltk2, ltk3, ltk4, ltk5, ltk6, ltk7, ltk8, ltk9, *]))
  have cc7_1 : v7.cell? ⟨w.heap.size, 1, none⟩ = some (.int .i64 b) := (hb7.cell (p := ⟨w.heap.size, 1, none⟩) (by first | omega | (simp [ext_size]; try omega))).trans (by (simp (maxDischargeDepth := 8) [go_sem, World.cell?_alloc_past, ltk2, ltk3, ltk4, ltk5, ltk6, ltk7, ltk8, ltk9, *]))
  have cc7_2 : v7.cell? ⟨w.heap.size + 1, 0, none⟩ = some (.int .i64 c) := (hb7.cell (p := ⟨w.heap.size + 1, 0, none⟩) (by first | omega | (simp [ext_size]; try omega))).trans (by (simp (maxDischargeDepth := 8) [go_sem, World.cell?_alloc_past, ltk2, ltk3, ltk4, ltk5, ltk6, ltk7, ltk8, ltk9, *]))
  have cc7_3 : v7.cell? ⟨w.heap.size + 1, 1, none⟩ = some (.int .i64 d) := (hb7.cell (p := ⟨w.heap.size + 1, 1, none⟩) (by first | omega | (simp [ext_size]; try omega))).trans (by (simp (maxDischargeDepth := 8) [go_sem, World.cell?_alloc_past, ltk2, ltk3, ltk4, ltk5, ltk6, ltk7, ltk8, ltk9, *]))
  have cc7_4 : v7.cell? ⟨w.heap.size + 1 + 1, 0, none⟩ = some (.int .i64 n) := (hb7.cell (p := ⟨w.heap.size + 1 + 1, 0, none⟩) (by first | omega | (simp [ext_size]; try omega))).trans (by (simp (maxDischargeDepth := 8) [go_sem, World.cell?_alloc_past, ltk2, ltk3, ltk4, ltk5, ltk6, ltk7, ltk8, ltk9, *]))
  have cc7_5 : v7.cell? ⟨w.heap.size + 1 + 1, 1, none⟩ = some (.int .i64 m) := (hb7.cell (p := ⟨w.heap.size + 1 + 1, 1, none⟩) (by first | omega | (simp [ext_size]; try omega))).trans (by (simp (maxDischargeDepth := 8) [go_sem, World.cell?_alloc_past, ltk2, ltk3, ltk4, ltk5, ltk6, ltk7, ltk8, ltk9, *]))
  have cc7_6 : v7.cell? ⟨v1.heap.size, 0, none⟩ = some (.int .i64 x0) := (hb7.cell (p := ⟨v1.heap.size, 0, none⟩) (by first | omega | (simp [ext_size]; try omega))).trans (by (simp (maxDischargeDepth := 8) [go_sem, World.cell?_alloc_past, ltk2, ltk3, ltk4, ltk5, ltk6, ltk7, ltk8, ltk9, *]))
  have cc7_7 : v7.cell? ⟨v1.heap.size, 1, none⟩ = some (.int .i64 y0) := (hb7.cell (p := ⟨v1.heap.size, 1, none⟩) (by first | omega | (simp [ext_size]; try omega))).trans (by (simp (maxDischargeDepth := 8) [go_sem, World.cell?_alloc_past, ltk2, ltk3, ltk4, ltk5, ltk6, ltk7, ltk8, ltk9, *]))
  have cc7_8 : v7.cell? ⟨v2.heap.size, 0, none⟩ = some (.int .i64 x0) := (hb7.cell (p := ⟨v2.heap.size, 0, none⟩) (by first | omega | (simp [ext_size]; try omega))).trans (by (simp (maxDischargeDepth := 8) [go_sem, World.cell?_alloc_past, ltk2, ltk3, ltk4, ltk5, ltk6, ltk7, ltk8, ltk9, *]))
  have cc7_9 : v7.cell? ⟨v2.heap.size, 1, none⟩ = some (.int .i64 y0) := (hb7.cell (p := ⟨v2.heap.size, 1, none⟩) (by first | omega | (simp [ext_size]; try omega))).trans (by (simp (maxDischargeDepth := 8) [go_sem, World.cell?_alloc_past, ltk2, ltk3, ltk4, ltk5, ltk6, ltk7, ltk8, ltk9, *]))
  have cc7_10 : v7.cell? ⟨v3.heap.size, 0, none⟩ = some (.int .i64 x1) := (hb7.cell (p := ⟨v3.heap.size, 0, none⟩) (by first | omega | (simp [ext_size]; try omega))).trans (by (simp (maxDischargeDepth := 8) [go_sem, World.cell?_alloc_past, ltk2, ltk3, ltk4, ltk5, ltk6, ltk7, ltk8, ltk9, *]))
  have cc7_11 : v7.cell? ⟨v3.heap.size, 1, none⟩ = some (.int .i64 y1) := (hb7.cell (p := ⟨v3.heap.size, 1, none⟩) (by first | omega | (simp [ext_size]; try omega))).trans (by (simp (maxDischargeDepth := 8) [go_sem, World.cell?_alloc_past, ltk2, ltk3, ltk4, ltk5, ltk6, ltk7, ltk8, ltk9, *]))
  have cc7_12 : v7.cell? ⟨v4.heap.size, 0, none⟩ = some (.int .i64 x1) := (hb7.cell (p := ⟨v4.heap.size, 0, none⟩) (by first | omega | (simp [ext_size]; try omega))).trans (by (simp (maxDischargeDepth := 8) [go_sem, World.cell?_alloc_past, ltk2, ltk3, ltk4, ltk5, ltk6, ltk7, ltk8, ltk9, *]))
  have cc7_13 : v7.cell? ⟨v4.heap.size, 1, none⟩ = some (.int .i64 y1) := (hb7.cell (p := ⟨v4.heap.size, 1, none⟩) (by first | omega | (simp [ext_size]; try omega))).trans (by (simp (maxDischargeDepth := 8) [go_sem, World.cell?_alloc_past, ltk2, ltk3, ltk4, ltk5, ltk6, ltk7, ltk8, ltk9, *]))
  have cc7_14 : v7.cell? ⟨v5.heap.size, 0, none⟩ = some (.int .i64 x2) := (hb7.cell (p := ⟨v5.heap.size, 0, none⟩) (by first | omega | (simp [ext_size]; try omega))).trans (by (simp (maxDischargeDepth := 8) [go_sem, World.cell?_alloc_past, ltk2, ltk3, ltk4, ltk5, ltk6, ltk7, ltk8, ltk9, *]))
  have cc7_15 : v7.cell? ⟨v5.heap.size, 1, none⟩ = some (.int .i64 y2) := (hb7.cell (p := ⟨v5.heap.size, 1, none⟩) (by first | omega | (simp [ext_size]; try omega))).trans (by (simp (maxDischargeDepth := 8) [go_sem, World.cell?_alloc_past, ltk2, ltk3, ltk4, ltk5, ltk6, ltk7, ltk8, ltk9, *]))
  have cc7_16 : v7.cell? ⟨v6.heap.size, 0, none⟩ = some (.int .i64 x2) := (hb7.cell (p := ⟨v6.heap.size, 0, none⟩) (by first | omega | (simp [ext_size]; try omega))).trans (by (simp (maxDischargeDepth := 8) [go_sem, World.cell?_alloc_past, ltk2, ltk3, ltk4, ltk5, ltk6, ltk7, ltk8, ltk9, *]))
  have cc7_17 : v7.cell? ⟨v6.heap.size, 1, none⟩ = some (.int .i64 y2) := (hb7.cell (p := ⟨v6.heap.size, 1, none⟩) (by first | omega | (simp [ext_size]; try omega))).trans (by (simp (maxDischargeDepth := 8) [go_sem, World.cell?_alloc_past, ltk2, ltk3, ltk4, ltk5, ltk6, ltk7, ltk8, ltk9, *]))
  have zl7_0 : w.heap.size < v7.heap.size := by omega
  have zl7_1 : w.heap.size + 1 < v7.heap.size := by omega
  have zl7_2 : w.heap.size + 1 + 1 < v7.heap.size := by omega
  have zl7_3 : v1.heap.size < v7.heap.size := by omega
  have zl7_4 : v2.heap.size < v7.heap.size := by omega
  have zl7_5 : v3.heap.size < v7.heap.size := by omega
  have zl7_6 : v4.heap.size < v7.heap.size := by omega
  have zl7_7 : v5.heap.size < v7.heap.size := by omega
  have zl7_8 : v6.heap.size < v7.heap.size := by omega
  have hB7 : Below w.heap.size w v7 := Below.trans (by (repeat (first | with_reducible exact hB6 | (with_reducible refine bext ?_ _ _) | (with_reducible refine below_drewN ?_ _) | (with_reducible refine Below.drew ?_) | (with_reducible refine bal ?_ _) | (with_reducible refine bset ?_ (by first | omega | (simp <;> omega)) _)))) (hb7.mono (by first | omega | (simp [ext_size]; try omega)))
  clear hb7
  go_wp2_with fail
  refine (A8 _).mono ?_
  rintro e v8 ⟨rfl, hb8⟩
  have zz8 := hb8.size
  try simp [ext_size] at zz8
  have cc8_0 : v8.cell? ⟨w.heap.size, 0, none⟩ = some (.int .i64 a) := (hb8.cell (p := ⟨w.heap.size, 0, none⟩) (by first | omega | (simp [ext_size]; try omega))).trans (by (simp (maxDischargeDepth := 8) [go_sem, World.cell?_alloc_past, ltk2, ltk3, ltk4, ltk5, ltk6, ltk7, ltk8, ltk9, *]))
  have cc8_1 : v8.cell? ⟨w.heap.size, 1, none⟩ = some (.int .i64 b) := (hb8.cell (p := ⟨w.heap.size, 1, none⟩) (by first | omega | (simp [ext_size]; try omega))).trans (by (simp (maxDischargeDepth := 8) [go_sem, World.cell?_alloc_past, ltk2, ltk3, ltk4, ltk5, ltk6, ltk7, ltk8, ltk9, *]))
  have cc8_2 : v8.cell? ⟨w.heap.size + 1, 0, none⟩ = some (.int .i64 c) := (hb8.cell (p := ⟨w.heap.size + 1, 0, none⟩) (by first | omega | (simp [ext_size]; try omega))).trans (by (simp (maxDischargeDepth := 8) [go_sem, World.cell?_alloc_past, ltk2, ltk3, ltk4, ltk5, ltk6, ltk7, ltk8, ltk9, *]))
  have cc8_3 : v8.cell? ⟨w.heap.size + 1, 1, none⟩ = some (.int .i64 d) := (hb8.cell (p := ⟨w.heap.size + 1, 1, none⟩) (by first | omega | (simp [ext_size]; try omega))).trans (by (simp (maxDischargeDepth := 8) [go_sem, World.cell?_alloc_past, ltk2, ltk3, ltk4, ltk5, ltk6, ltk7, ltk8, ltk9, *]))
  have cc8_4 : v8.cell? ⟨w.heap.size + 1 + 1, 0, none⟩ = some (.int .i64 n) := (hb8.cell (p := ⟨w.heap.size + 1 + 1, 0, none⟩) (by first | omega | (simp [ext_size]; try omega))).trans (by (simp (maxDischargeDepth := 8) [go_sem, World.cell?_alloc_past, ltk2, ltk3, ltk4, ltk5, ltk6, ltk7, ltk8, ltk9, *]))
  have cc8_5 : v8.cell? ⟨w.heap.size + 1 + 1, 1, none⟩ = some (.int .i64 m) := (hb8.cell (p := ⟨w.heap.size + 1 + 1, 1, none⟩) (by first | omega | (simp [ext_size]; try omega))).trans (by (simp (maxDischargeDepth := 8) [go_sem, World.cell?_alloc_past, ltk2, ltk3, ltk4, ltk5, ltk6, ltk7, ltk8, ltk9, *]))
  have cc8_6 : v8.cell? ⟨v1.heap.size, 0, none⟩ = some (.int .i64 x0) := (hb8.cell (p := ⟨v1.heap.size, 0, none⟩) (by first | omega | (simp [ext_size]; try omega))).trans (by (simp (maxDischargeDepth := 8) [go_sem, World.cell?_alloc_past, ltk2, ltk3, ltk4, ltk5, ltk6, ltk7, ltk8, ltk9, *]))
  have cc8_7 : v8.cell? ⟨v1.heap.size, 1, none⟩ = some (.int .i64 y0) := (hb8.cell (p := ⟨v1.heap.size, 1, none⟩) (by first | omega | (simp [ext_size]; try omega))).trans (by (simp (maxDischargeDepth := 8) [go_sem, World.cell?_alloc_past, ltk2, ltk3, ltk4, ltk5, ltk6, ltk7, ltk8, ltk9, *]))
  have cc8_8 : v8.cell? ⟨v2.heap.size, 0, none⟩ = some (.int .i64 x0) := (hb8.cell (p := ⟨v2.heap.size, 0, none⟩) (by first | omega | (simp [ext_size]; try omega))).trans (by (simp (maxDischargeDepth := 8) [go_sem, World.cell?_alloc_past, ltk2, ltk3, ltk4, ltk5, ltk6, ltk7, ltk8, ltk9, *]))
  have cc8_9 : v8.cell? ⟨v2.heap.size, 1, none⟩ = some (.int .i64 y0) := (hb8.cell (p := ⟨v2.heap.size, 1, none⟩) (by first | omega | (simp [ext_size]; try omega))).trans (by (simp (maxDischargeDepth := 8) [go_sem, World.cell?_alloc_past, ltk2, ltk3, ltk4, ltk5, ltk6, ltk7, ltk8, ltk9, *]))
  have cc8_10 : v8.cell? ⟨v3.heap.size, 0, none⟩ = some (.int .i64 x1) := (hb8.cell (p := ⟨v3.heap.size, 0, none⟩) (by first | omega | (simp [ext_size]; try omega))).trans (by (simp (maxDischargeDepth := 8) [go_sem, World.cell?_alloc_past, ltk2, ltk3, ltk4, ltk5, ltk6, ltk7, ltk8, ltk9, *]))
  have cc8_11 : v8.cell? ⟨v3.heap.size, 1, none⟩ = some (.int .i64 y1) := (hb8.cell (p := ⟨v3.heap.size, 1, none⟩) (by first | omega | (simp [ext_size]; try omega))).trans (by (simp (maxDischargeDepth := 8) [go_sem, World.cell?_alloc_past, ltk2, ltk3, ltk4, ltk5, ltk6, ltk7, ltk8, ltk9, *]))
  have cc8_12 : v8.cell? ⟨v4.heap.size, 0, none⟩ = some (.int .i64 x1) := (hb8.cell (p := ⟨v4.heap.size, 0, none⟩) (by first | omega | (simp [ext_size]; try omega))).trans (by (simp (maxDischargeDepth := 8) [go_sem, World.cell?_alloc_past, ltk2, ltk3, ltk4, ltk5, ltk6, ltk7, ltk8, ltk9, *]))
  have cc8_13 : v8.cell? ⟨v4.heap.size, 1, none⟩ = some (.int .i64 y1) := (hb8.cell (p := ⟨v4.heap.size, 1, none⟩) (by first | omega | (simp [ext_size]; try omega))).trans (by (simp (maxDischargeDepth := 8) [go_sem, World.cell?_alloc_past, ltk2, ltk3, ltk4, ltk5, ltk6, ltk7, ltk8, ltk9, *]))
  have cc8_14 : v8.cell? ⟨v5.heap.size, 0, none⟩ = some (.int .i64 x2) := (hb8.cell (p := ⟨v5.heap.size, 0, none⟩) (by first | omega | (simp [ext_size]; try omega))).trans (by (simp (maxDischargeDepth := 8) [go_sem, World.cell?_alloc_past, ltk2, ltk3, ltk4, ltk5, ltk6, ltk7, ltk8, ltk9, *]))
  have cc8_15 : v8.cell? ⟨v5.heap.size, 1, none⟩ = some (.int .i64 y2) := (hb8.cell (p := ⟨v5.heap.size, 1, none⟩) (by first | omega | (simp [ext_size]; try omega))).trans (by (simp (maxDischargeDepth := 8) [go_sem, World.cell?_alloc_past, ltk2, ltk3, ltk4, ltk5, ltk6, ltk7, ltk8, ltk9, *]))
  have cc8_16 : v8.cell? ⟨v6.heap.size, 0, none⟩ = some (.int .i64 x2) := (hb8.cell (p := ⟨v6.heap.size, 0, none⟩) (by first | omega | (simp [ext_size]; try omega))).trans (by (simp (maxDischargeDepth := 8) [go_sem, World.cell?_alloc_past, ltk2, ltk3, ltk4, ltk5, ltk6, ltk7, ltk8, ltk9, *]))
  have cc8_17 : v8.cell? ⟨v6.heap.size, 1, none⟩ = some (.int .i64 y2) := (hb8.cell (p := ⟨v6.heap.size, 1, none⟩) (by first | omega | (simp [ext_size]; try omega))).trans (by (simp (maxDischargeDepth := 8) [go_sem, World.cell?_alloc_past, ltk2, ltk3, ltk4, ltk5, ltk6, ltk7, ltk8, ltk9, *]))
  have cc8_18 : v8.cell? ⟨v7.heap.size, 0, none⟩ = some (.int .i64 x3) := (hb8.cell (p := ⟨v7.heap.size, 0, none⟩) (by first | omega | (simp [ext_size]; try omega))).trans (by (simp (maxDischargeDepth := 8) [go_sem, World.cell?_alloc_past, ltk2, ltk3, ltk4, ltk5, ltk6, ltk7, ltk8, ltk9, *]))
  have cc8_19 : v8.cell? ⟨v7.heap.size, 1, none⟩ = some (.int .i64 y3) := (hb8.cell (p := ⟨v7.heap.size, 1, none⟩) (by first | omega | (simp [ext_size]; try omega))).trans (by (simp (maxDischargeDepth := 8) [go_sem, World.cell?_alloc_past, ltk2, ltk3, ltk4, ltk5, ltk6, ltk7, ltk8, ltk9, *]))
  have zl8_0 : w.heap.size < v8.heap.size := by omega
  have zl8_1 : w.heap.size + 1 < v8.heap.size := by omega
  have zl8_2 : w.heap.size + 1 + 1 < v8.heap.size := by omega
  have zl8_3 : v1.heap.size < v8.heap.size := by omega
  have zl8_4 : v2.heap.size < v8.heap.size := by omega
  have zl8_5 : v3.heap.size < v8.heap.size := by omega
  have zl8_6 : v4.heap.size < v8.heap.size := by omega
  have zl8_7 : v5.heap.size < v8.heap.size := by omega
  have zl8_8 : v6.heap.size < v8.heap.size := by omega
  have zl8_9 : v7.heap.size < v8.heap.size := by omega
  have hB8 : Below w.heap.size w v8 := Below.trans (by (repeat (first | with_reducible exact hB7 | (with_reducible refine bext ?_ _ _) | (with_reducible refine below_drewN ?_ _) | (with_reducible refine Below.drew ?_) | (with_reducible refine bal ?_ _) | (with_reducible refine bset ?_ (by first | omega | (simp <;> omega)) _)))) (hb8.mono (by first | omega | (simp [ext_size]; try omega)))
  clear hb8
  go_wp2_with fail
  refine (A9 _).mono ?_
  rintro e v9 ⟨rfl, hb9⟩
  have zz9 := hb9.size
  try simp [ext_size] at zz9
  have cc9_0 : v9.cell? ⟨w.heap.size, 0, none⟩ = some (.int .i64 a) := (hb9.cell (p := ⟨w.heap.size, 0, none⟩) (by first | omega | (simp [ext_size]; try omega))).trans (by (simp (maxDischargeDepth := 8) [go_sem, World.cell?_alloc_past, ltk2, ltk3, ltk4, ltk5, ltk6, ltk7, ltk8, ltk9, *]))
  have cc9_1 : v9.cell? ⟨w.heap.size, 1, none⟩ = some (.int .i64 b) := (hb9.cell (p := ⟨w.heap.size, 1, none⟩) (by first | omega | (simp [ext_size]; try omega))).trans (by (simp (maxDischargeDepth := 8) [go_sem, World.cell?_alloc_past, ltk2, ltk3, ltk4, ltk5, ltk6, ltk7, ltk8, ltk9, *]))
  have cc9_2 : v9.cell? ⟨w.heap.size + 1, 0, none⟩ = some (.int .i64 c) := (hb9.cell (p := ⟨w.heap.size + 1, 0, none⟩) (by first | omega | (simp [ext_size]; try omega))).trans (by (simp (maxDischargeDepth := 8) [go_sem, World.cell?_alloc_past, ltk2, ltk3, ltk4, ltk5, ltk6, ltk7, ltk8, ltk9, *]))
  have cc9_3 : v9.cell? ⟨w.heap.size + 1, 1, none⟩ = some (.int .i64 d) := (hb9.cell (p := ⟨w.heap.size + 1, 1, none⟩) (by first | omega | (simp [ext_size]; try omega))).trans (by (simp (maxDischargeDepth := 8) [go_sem, World.cell?_alloc_past, ltk2, ltk3, ltk4, ltk5, ltk6, ltk7, ltk8, ltk9, *]))
  have cc9_4 : v9.cell? ⟨w.heap.size + 1 + 1, 0, none⟩ = some (.int .i64 n) := (hb9.cell (p := ⟨w.heap.size + 1 + 1, 0, none⟩) (by first | omega | (simp [ext_size]; try omega))).trans (by (simp (maxDischargeDepth := 8) [go_sem, World.cell?_alloc_past, ltk2, ltk3, ltk4, ltk5, ltk6, ltk7, ltk8, ltk9, *]))
  have cc9_5 : v9.cell? ⟨w.heap.size + 1 + 1, 1, none⟩ = some (.int .i64 m) := (hb9.cell (p := ⟨w.heap.size + 1 + 1, 1, none⟩) (by first | omega | (simp [ext_size]; try omega))).trans (by (simp (maxDischargeDepth := 8) [go_sem, World.cell?_alloc_past, ltk2, ltk3, ltk4, ltk5, ltk6, ltk7, ltk8, ltk9, *]))
  have cc9_6 : v9.cell? ⟨v1.heap.size, 0, none⟩ = some (.int .i64 x0) := (hb9.cell (p := ⟨v1.heap.size, 0, none⟩) (by first | omega | (simp [ext_size]; try omega))).trans (by (simp (maxDischargeDepth := 8) [go_sem, World.cell?_alloc_past, ltk2, ltk3, ltk4, ltk5, ltk6, ltk7, ltk8, ltk9, *]))
  have cc9_7 : v9.cell? ⟨v1.heap.size, 1, none⟩ = some (.int .i64 y0) := (hb9.cell (p := ⟨v1.heap.size, 1, none⟩) (by first | omega | (simp [ext_size]; try omega))).trans (by (simp (maxDischargeDepth := 8) [go_sem, World.cell?_alloc_past, ltk2, ltk3, ltk4, ltk5, ltk6, ltk7, ltk8, ltk9, *]))
  have cc9_8 : v9.cell? ⟨v2.heap.size, 0, none⟩ = some (.int .i64 x0) := (hb9.cell (p := ⟨v2.heap.size, 0, none⟩) (by first | omega | (simp [ext_size]; try omega))).trans (by (simp (maxDischargeDepth := 8) [go_sem, World.cell?_alloc_past, ltk2, ltk3, ltk4, ltk5, ltk6, ltk7, ltk8, ltk9, *]))
  have cc9_9 : v9.cell? ⟨v2.heap.size, 1, none⟩ = some (.int .i64 y0) := (hb9.cell (p := ⟨v2.heap.size, 1, none⟩) (by first | omega | (simp [ext_size]; try omega))).trans (by (simp (maxDischargeDepth := 8) [go_sem, World.cell?_alloc_past, ltk2, ltk3, ltk4, ltk5, ltk6, ltk7, ltk8, ltk9, *]))
  have cc9_10 : v9.cell? ⟨v3.heap.size, 0, none⟩ = some (.int .i64 x1) := (hb9.cell (p := ⟨v3.heap.size, 0, none⟩) (by first | omega | (simp [ext_size]; try omega))).trans (by (simp (maxDischargeDepth := 8) [go_sem, World.cell?_alloc_past, ltk2, ltk3, ltk4, ltk5, ltk6, ltk7, ltk8, ltk9, *]))
  have cc9_11 : v9.cell? ⟨v3.heap.size, 1, none⟩ = some (.int .i64 y1) := (hb9.cell (p := ⟨v3.heap.size, 1, none⟩) (by first | omega | (simp [ext_size]; try omega))).trans (by (simp (maxDischargeDepth := 8) [go_sem, World.cell?_alloc_past, ltk2, ltk3, ltk4, ltk5, ltk6, ltk7, ltk8, ltk9, *]))
  have cc9_12 : v9.cell? ⟨v4.heap.size, 0, none⟩ = some (.int .i64 x1) := (hb9.cell (p := ⟨v4.heap.size, 0, none⟩) (by first | omega | (simp [ext_size]; try omega))).trans (by (simp (maxDischargeDepth := 8) [go_sem, World.cell?_alloc_past, ltk2, ltk3, ltk4, ltk5, ltk6, ltk7, ltk8, ltk9, *]))
  have cc9_13 : v9.cell? ⟨v4.heap.size, 1, none⟩ = some (.int .i64 y1) := (hb9.cell (p := ⟨v4.heap.size, 1, none⟩) (by first | omega | (simp [ext_size]; try omega))).trans (by (simp (maxDischargeDepth := 8) [go_sem, World.cell?_alloc_past, ltk2, ltk3, ltk4, ltk5, ltk6, ltk7, ltk8, ltk9, *]))
  have cc9_14 : v9.cell? ⟨v5.heap.size, 0, none⟩ = some (.int .i64 x2) := (hb9.cell (p := ⟨v5.heap.size, 0, none⟩) (by first | omega | (simp [ext_size]; try omega))).trans (by (simp (maxDischargeDepth := 8) [go_sem, World.cell?_alloc_past, ltk2, ltk3, ltk4, ltk5, ltk6, ltk7, ltk8, ltk9, *]))
  have cc9_15 : v9.cell? ⟨v5.heap.size, 1, none⟩ = some (.int .i64 y2) := (hb9.cell (p := ⟨v5.heap.size, 1, none⟩) (by first | omega | (simp [ext_size]; try omega))).trans (by (simp (maxDischargeDepth := 8) [go_sem, World.cell?_alloc_past, ltk2, ltk3, ltk4, ltk5, ltk6, ltk7, ltk8, ltk9, *]))
  have cc9_16 : v9.cell? ⟨v6.heap.size, 0, none⟩ = some (.int .i64 x2) := (hb9.cell (p := ⟨v6.heap.size, 0, none⟩) (by first | omega | (simp [ext_size]; try omega))).trans (by (simp (maxDischargeDepth := 8) [go_sem, World.cell?_alloc_past, ltk2, ltk3, ltk4, ltk5, ltk6, ltk7, ltk8, ltk9, *]))
  have cc9_17 : v9.cell? ⟨v6.heap.size, 1, none⟩ = some (.int .i64 y2) := (hb9.cell (p := ⟨v6.heap.size, 1, none⟩) (by first | omega | (simp [ext_size]; try omega))).trans (by (simp (maxDischargeDepth := 8) [go_sem, World.cell?_alloc_past, ltk2, ltk3, ltk4, ltk5, ltk6, ltk7, ltk8, ltk9, *]))
  have cc9_18 : v9.cell? ⟨v7.heap.size, 0, none⟩ = some (.int .i64 x3) := (hb9.cell (p := ⟨v7.heap.size, 0, none⟩) (by first | omega | (simp [ext_size]; try omega))).trans (by (simp (maxDischargeDepth := 8) [go_sem, World.cell?_alloc_past, ltk2, ltk3, ltk4, ltk5, ltk6, ltk7, ltk8, ltk9, *]))
  have cc9_19 : v9.cell? ⟨v7.heap.size, 1, none⟩ = some (.int .i64 y3) := (hb9.cell (p := ⟨v7.heap.size, 1, none⟩) (by first | omega | (simp [ext_size]; try omega))).trans (by (simp (maxDischargeDepth := 8) [go_sem, World.cell?_alloc_past, ltk2, ltk3, ltk4, ltk5, ltk6, ltk7, ltk8, ltk9, *]))
  have cc9_20 : v9.cell? ⟨v8.heap.size, 0, none⟩ = some (.int .i64 x3) := (hb9.cell (p := ⟨v8.heap.size, 0, none⟩) (by first | omega | (simp [ext_size]; try omega))).trans (by (simp (maxDischargeDepth := 8) [go_sem, World.cell?_alloc_past, ltk2, ltk3, ltk4, ltk5, ltk6, ltk7, ltk8, ltk9, *]))
  have cc9_21 : v9.cell? ⟨v8.heap.size, 1, none⟩ = some (.int .i64 y3) := (hb9.cell (p := ⟨v8.heap.size, 1, none⟩) (by first | omega | (simp [ext_size]; try omega))).trans (by (simp (maxDischargeDepth := 8) [go_sem, World.cell?_alloc_past, ltk2, ltk3, ltk4, ltk5, ltk6, ltk7, ltk8, ltk9, *]))
  have zl9_0 : w.heap.size < v9.heap.size := by omega
  have zl9_1 : w.heap.size + 1 < v9.heap.size := by omega
  have zl9_2 : w.heap.size + 1 + 1 < v9.heap.size := by omega
  have zl9_3 : v1.heap.size < v9.heap.size := by omega
  have zl9_4 : v2.heap.size < v9.heap.size := by omega
  have zl9_5 : v3.heap.size < v9.heap.size := by omega
  have zl9_6 : v4.heap.size < v9.heap.size := by omega
  have zl9_7 : v5.heap.size < v9.heap.size := by omega
  have zl9_8 : v6.heap.size < v9.heap.size := by omega
  have zl9_9 : v7.heap.size < v9.heap.size := by omega
  have zl9_10 : v8.heap.size < v9.heap.size := by omega
  have hB9 : Below w.heap.size w v9 := Below.trans (by (repeat (first | with_reducible exact hB8 | (with_reducible refine bext ?_ _ _) | (with_reducible refine below_drewN ?_ _) | (with_reducible refine Below.drew ?_) | (with_reducible refine bal ?_ _) | (with_reducible refine bset ?_ (by first | omega | (simp <;> omega)) _)))) (hb9.mono (by first | omega | (simp [ext_size]; try omega)))
  clear hb9
  go_wp2_with fail
  refine (B1 _).mono ?_
  rintro e v10 ⟨rfl, hb10⟩
  have zz10 := hb10.size
  try simp [ext_size] at zz10
  have cc10_0 : v10.cell? ⟨w.heap.size, 0, none⟩ = some (.int .i64 a) := (hb10.cell (p := ⟨w.heap.size, 0, none⟩) (by first | omega | (simp [ext_size]; try omega))).trans (by (simp (maxDischargeDepth := 8) [go_sem, World.cell?_alloc_past, ltk2, ltk3, ltk4, ltk5, ltk6, ltk7, ltk8, ltk9, *]))
  have cc10_1 : v10.cell? ⟨w.heap.size, 1, none⟩ = some (.int .i64 b) := (hb10.cell (p := ⟨w.heap.size, 1, none⟩) (by first | omega | (simp [ext_size]; try omega))).trans (by (simp (maxDischargeDepth := 8) [go_sem, World.cell?_alloc_past, ltk2, ltk3, ltk4, ltk5, ltk6, ltk7, ltk8, ltk9, *]))
  have cc10_2 : v10.cell? ⟨w.heap.size + 1, 0, none⟩ = some (.int .i64 c) := (hb10.cell (p := ⟨w.heap.size + 1, 0, none⟩) (by first | omega | (simp [ext_size]; try omega))).trans (by (simp (maxDischargeDepth := 8) [go_sem, World.cell?_alloc_past, ltk2, ltk3, ltk4, ltk5, ltk6, ltk7, ltk8, ltk9, *]))
  have cc10_3 : v10.cell? ⟨w.heap.size + 1, 1, none⟩ = some (.int .i64 d) := (hb10.cell (p := ⟨w.heap.size + 1, 1, none⟩) (by first | omega | (simp [ext_size]; try omega))).trans (by (simp (maxDischargeDepth := 8) [go_sem, World.cell?_alloc_past, ltk2, ltk3, ltk4, ltk5, ltk6, ltk7, ltk8, ltk9, *]))
  have cc10_4 : v10.cell? ⟨w.heap.size + 1 + 1, 0, none⟩ = some (.int .i64 n) := (hb10.cell (p := ⟨w.heap.size + 1 + 1, 0, none⟩) (by first | omega | (simp [ext_size]; try omega))).trans (by (simp (maxDischargeDepth := 8) [go_sem, World.cell?_alloc_past, ltk2, ltk3, ltk4, ltk5, ltk6, ltk7, ltk8, ltk9, *]))
  have cc10_5 : v10.cell? ⟨w.heap.size + 1 + 1, 1, none⟩ = some (.int .i64 m) := (hb10.cell (p := ⟨w.heap.size + 1 + 1, 1, none⟩) (by first | omega | (simp [ext_size]; try omega))).trans (by (simp (maxDischargeDepth := 8) [go_sem, World.cell?_alloc_past, ltk2, ltk3, ltk4, ltk5, ltk6, ltk7, ltk8, ltk9, *]))
  have cc10_6 : v10.cell? ⟨v1.heap.size, 0, none⟩ = some (.int .i64 x0) := (hb10.cell (p := ⟨v1.heap.size, 0, none⟩) (by first | omega | (simp [ext_size]; try omega))).trans (by (simp (maxDischargeDepth := 8) [go_sem, World.cell?_alloc_past, ltk2, ltk3, ltk4, ltk5, ltk6, ltk7, ltk8, ltk9, *]))
  have cc10_7 : v10.cell? ⟨v1.heap.size, 1, none⟩ = some (.int .i64 y0) := (hb10.cell (p := ⟨v1.heap.size, 1, none⟩) (by first | omega | (simp [ext_size]; try omega))).trans (by (simp (maxDischargeDepth := 8) [go_sem, World.cell?_alloc_past, ltk2, ltk3, ltk4, ltk5, ltk6, ltk7, ltk8, ltk9, *]))
  have cc10_8 : v10.cell? ⟨v2.heap.size, 0, none⟩ = some (.int .i64 x0) := (hb10.cell (p := ⟨v2.heap.size, 0, none⟩) (by first | omega | (simp [ext_size]; try omega))).trans (by (simp (maxDischargeDepth := 8) [go_sem, World.cell?_alloc_past, ltk2, ltk3, ltk4, ltk5, ltk6, ltk7, ltk8, ltk9, *]))
  have cc10_9 : v10.cell? ⟨v2.heap.size, 1, none⟩ = some (.int .i64 y0) := (hb10.cell (p := ⟨v2.heap.size, 1, none⟩) (by first | omega | (simp [ext_size]; try omega))).trans (by (simp (maxDischargeDepth := 8) [go_sem, World.cell?_alloc_past, ltk2, ltk3, ltk4, ltk5, ltk6, ltk7, ltk8, ltk9, *]))
  have cc10_10 : v10.cell? ⟨v3.heap.size, 0, none⟩ = some (.int .i64 x1) := (hb10.cell (p := ⟨v3.heap.size, 0, none⟩) (by first | omega | (simp [ext_size]; try omega))).trans (by (simp (maxDischargeDepth := 8) [go_sem, World.cell?_alloc_past, ltk2, ltk3, ltk4, ltk5, ltk6, ltk7, ltk8, ltk9, *]))
  have cc10_11 : v10.cell? ⟨v3.heap.size, 1, none⟩ = some (.int .i64 y1) := (hb10.cell (p := ⟨v3.heap.size, 1, none⟩) (by first | omega | (simp [ext_size]; try omega))).trans (by (simp (maxDischargeDepth := 8) [go_sem, World.cell?_alloc_past, ltk2, ltk3, ltk4, ltk5, ltk6, ltk7, ltk8, ltk9, *]))
  have cc10_12 : v10.cell? ⟨v4.heap.size, 0, none⟩ = some (.int .i64 x1) := (hb10.cell (p := ⟨v4.heap.size, 0, none⟩) (by first | omega | (simp [ext_size]; try omega))).trans (by (simp (maxDischargeDepth := 8) [go_sem, World.cell?_alloc_past, ltk2, ltk3, ltk4, ltk5, ltk6, ltk7, ltk8, ltk9, *]))
  have cc10_13 : v10.cell? ⟨v4.heap.size, 1, none⟩ = some (.int .i64 y1) := (hb10.cell (p := ⟨v4.heap.size, 1, none⟩) (by first | omega | (simp [ext_size]; try omega))).trans (by (simp (maxDischargeDepth := 8) [go_sem, World.cell?_alloc_past, ltk2, ltk3, ltk4, ltk5, ltk6, ltk7, ltk8, ltk9, *]))
  have cc10_14 : v10.cell? ⟨v5.heap.size, 0, none⟩ = some (.int .i64 x2) := (hb10.cell (p := ⟨v5.heap.size, 0, none⟩) (by first | omega | (simp [ext_size]; try omega))).trans (by (simp (maxDischargeDepth := 8) [go_sem, World.cell?_alloc_past, ltk2, ltk3, ltk4, ltk5, ltk6, ltk7, ltk8, ltk9, *]))
  have cc10_15 : v10.cell? ⟨v5.heap.size, 1, none⟩ = some (.int .i64 y2) := (hb10.cell (p := ⟨v5.heap.size, 1, none⟩) (by first | omega | (simp [ext_size]; try omega))).trans (by (simp (maxDischargeDepth := 8) [go_sem, World.cell?_alloc_past, ltk2, ltk3, ltk4, ltk5, ltk6, ltk7, ltk8, ltk9, *]))
  have cc10_16 : v10.cell? ⟨v6.heap.size, 0, none⟩ = some (.int .i64 x2) := (hb10.cell (p := ⟨v6.heap.size, 0, none⟩) (by first | omega | (simp [ext_size]; try omega))).trans (by (simp (maxDischargeDepth := 8) [go_sem, World.cell?_alloc_past, ltk2, ltk3, ltk4, ltk5, ltk6, ltk7, ltk8, ltk9, *]))
  have cc10_17 : v10.cell? ⟨v6.heap.size, 1, none⟩ = some (.int .i64 y2) := (hb10.cell (p := ⟨v6.heap.size, 1, none⟩) (by first | omega | (simp [ext_size]; try omega))).trans (by (simp (maxDischargeDepth := 8) [go_sem, World.cell?_alloc_past, ltk2, ltk3, ltk4, ltk5, ltk6, ltk7, ltk8, ltk9, *]))
  have cc10_18 : v10.cell? ⟨v7.heap.size, 0, none⟩ = some (.int .i64 x3) := (hb10.cell (p := ⟨v7.heap.size, 0, none⟩) (by first | omega | (simp [ext_size]; try omega))).trans (by (simp (maxDischargeDepth := 8) [go_sem, World.cell?_alloc_past, ltk2, ltk3, ltk4, ltk5, ltk6, ltk7, ltk8, ltk9, *]))
  have cc10_19 : v10.cell? ⟨v7.heap.size, 1, none⟩ = some (.int .i64 y3) := (hb10.cell (p := ⟨v7.heap.size, 1, none⟩) (by first | omega | (simp [ext_size]; try omega))).trans (by (simp (maxDischargeDepth := 8) [go_sem, World.cell?_alloc_past, ltk2, ltk3, ltk4, ltk5, ltk6, ltk7, ltk8, ltk9, *]))
  have cc10_20 : v10.cell? ⟨v8.heap.size, 0, none⟩ = some (.int .i64 x3) := (hb10.cell (p := ⟨v8.heap.size, 0, none⟩) (by first | omega | (simp [ext_size]; try omega))).trans (by (simp (maxDischargeDepth := 8) [go_sem, World.cell?_alloc_past, ltk2, ltk3, ltk4, ltk5, ltk6, ltk7, ltk8, ltk9, *]))
  have cc10_21 : v10.cell? ⟨v8.heap.size, 1, none⟩ = some (.int .i64 y3) := (hb10.cell (p := ⟨v8.heap.size, 1, none⟩) (by first | omega | (simp [ext_size]; try omega))).trans (by (simp (maxDischargeDepth := 8) [go_sem, World.cell?_alloc_past, ltk2, ltk3, ltk4, ltk5, ltk6, ltk7, ltk8, ltk9, *]))
  have zl10_0 : w.heap.size < v10.heap.size := by omega
  have zl10_1 : w.heap.size + 1 < v10.heap.size := by omega
  have zl10_2 : w.heap.size + 1 + 1 < v10.heap.size := by omega
  have zl10_3 : v1.heap.size < v10.heap.size := by omega
  have zl10_4 : v2.heap.size < v10.heap.size := by omega
  have zl10_5 : v3.heap.size < v10.heap.size := by omega
  have zl10_6 : v4.heap.size < v10.heap.size := by omega
  have zl10_7 : v5.heap.size < v10.heap.size := by omega
  have zl10_8 : v6.heap.size < v10.heap.size := by omega
  have zl10_9 : v7.heap.size < v10.heap.size := by omega
  have zl10_10 : v8.heap.size < v10.heap.size := by omega
  have hB10 : Below w.heap.size w v10 := Below.trans (by (repeat (first | with_reducible exact hB9 | (with_reducible refine bext ?_ _ _) | (with_reducible refine below_drewN ?_ _) | (with_reducible refine Below.drew ?_) | (with_reducible refine bal ?_ _) | (with_reducible refine bset ?_ (by first | omega | (simp <;> omega)) _)))) (hb10.mono (by first | omega | (simp [ext_size]; try omega)))
  clear hb10
  go_wp2_with fail
  refine (B2 _).mono ?_
  rintro e v11 ⟨rfl, hb11⟩
  have zz11 := hb11.size
  try simp [ext_size] at zz11
  have cc11_0 : v11.cell? ⟨w.heap.size, 0, none⟩ = some (.int .i64 a) := (hb11.cell (p := ⟨w.heap.size, 0, none⟩) (by first | omega | (simp [ext_size]; try omega))).trans (by (simp (maxDischargeDepth := 8) [go_sem, World.cell?_alloc_past, ltk2, ltk3, ltk4, ltk5, ltk6, ltk7, ltk8, ltk9, *]))
  have cc11_1 : v11.cell? ⟨w.heap.size, 1, none⟩ = some (.int .i64 b) := (hb11.cell (p := ⟨w.heap.size, 1, none⟩) (by first | omega | (simp [ext_size]; try omega))).trans (by (simp (maxDischargeDepth := 8) [go_sem, World.cell?_alloc_past, ltk2, ltk3, ltk4, ltk5, ltk6, ltk7, ltk8, ltk9, *]))
  have cc11_2 : v11.cell? ⟨w.heap.size + 1, 0, none⟩ = some (.int .i64 c) := (hb11.cell (p := ⟨w.heap.size + 1, 0, none⟩) (by first | omega | (simp [ext_size]; try omega))).trans (by (simp (maxDischargeDepth := 8) [go_sem, World.cell?_alloc_past, ltk2, ltk3, ltk4, ltk5, ltk6, ltk7, ltk8, ltk9, *]))
  have cc11_3 : v11.cell? ⟨w.heap.size + 1, 1, none⟩ = some (.int .i64 d) := (hb11.cell (p := ⟨w.heap.size + 1, 1, none⟩) (by first | omega | (simp [ext_size]; try omega))).trans (by (simp (maxDischargeDepth := 8) [go_sem, World.cell?_alloc_past, ltk2, ltk3, ltk4, ltk5, ltk6, ltk7, ltk8, ltk9, *]))
  have cc11_4 : v11.cell? ⟨w.heap.size + 1 + 1, 0, none⟩ = some (.int .i64 n) := (hb11.cell (p := ⟨w.heap.size + 1 + 1, 0, none⟩) (by first | omega | (simp [ext_size]; try omega))).trans (by (simp (maxDischargeDepth := 8) [go_sem, World.cell?_alloc_past, ltk2, ltk3, ltk4, ltk5, ltk6, ltk7, ltk8, ltk9, *]))
  have cc11_5 : v11.cell? ⟨w.heap.size + 1 + 1, 1, none⟩ = some (.int .i64 m) := (hb11.cell (p := ⟨w.heap.size + 1 + 1, 1, none⟩) (by first | omega | (simp [ext_size]; try omega))).trans (by (simp (maxDischargeDepth := 8) [go_sem, World.cell?_alloc_past, ltk2, ltk3, ltk4, ltk5, ltk6, ltk7, ltk8, ltk9, *]))
  have cc11_6 : v11.cell? ⟨v1.heap.size, 0, none⟩ = some (.int .i64 x0) := (hb11.cell (p := ⟨v1.heap.size, 0, none⟩) (by first | omega | (simp [ext_size]; try omega))).trans (by (simp (maxDischargeDepth := 8) [go_sem, World.cell?_alloc_past, ltk2, ltk3, ltk4, ltk5, ltk6, ltk7, ltk8, ltk9, *]))
  have cc11_7 : v11.cell? ⟨v1.heap.size, 1, none⟩ = some (.int .i64 y0) := (hb11.cell (p := ⟨v1.heap.size, 1, none⟩) (by first | omega | (simp [ext_size]; try omega))).trans (by (simp (maxDischargeDepth := 8) [go_sem, World.cell?_alloc_past, ltk2, ltk3, ltk4, ltk5, ltk6, ltk7, ltk8, ltk9, *]))
  have cc11_8 : v11.cell? ⟨v2.heap.size, 0, none⟩ = some (.int .i64 x0) := (hb11.cell (p := ⟨v2.heap.size, 0, none⟩) (by first | omega | (simp [ext_size]; try omega))).trans (by (simp (maxDischargeDepth := 8) [go_sem, World.cell?_alloc_past, ltk2, ltk3, ltk4, ltk5, ltk6, ltk7, ltk8, ltk9, *]))
  have cc11_9 : v11.cell? ⟨v2.heap.size, 1, none⟩ = some (.int .i64 y0) := (hb11.cell (p := ⟨v2.heap.size, 1, none⟩) (by first | omega | (simp [ext_size]; try omega))).trans (by (simp (maxDischargeDepth := 8) [go_sem, World.cell?_alloc_past, ltk2, ltk3, ltk4, ltk5, ltk6, ltk7, ltk8, ltk9, *]))
  have cc11_10 : v11.cell? ⟨v3.heap.size, 0, none⟩ = some (.int .i64 x1) := (hb11.cell (p := ⟨v3.heap.size, 0, none⟩) (by first | omega | (simp [ext_size]; try omega))).trans (by (simp (maxDischargeDepth := 8) [go_sem, World.cell?_alloc_past, ltk2, ltk3, ltk4, ltk5, ltk6, ltk7, ltk8, ltk9, *]))
  have cc11_11 : v11.cell? ⟨v3.heap.size, 1, none⟩ = some (.int .i64 y1) := (hb11.cell (p := ⟨v3.heap.size, 1, none⟩) (by first | omega | (simp [ext_size]; try omega))).trans (by (simp (maxDischargeDepth := 8) [go_sem, World.cell?_alloc_past, ltk2, ltk3, ltk4, ltk5, ltk6, ltk7, ltk8, ltk9, *]))
  have cc11_12 : v11.cell? ⟨v4.heap.size, 0, none⟩ = some (.int .i64 x1) := (hb11.cell (p := ⟨v4.heap.size, 0, none⟩) (by first | omega | (simp [ext_size]; try omega))).trans (by (simp (maxDischargeDepth := 8) [go_sem, World.cell?_alloc_past, ltk2, ltk3, ltk4, ltk5, ltk6, ltk7, ltk8, ltk9, *]))
  have cc11_13 : v11.cell? ⟨v4.heap.size, 1, none⟩ = some (.int .i64 y1) := (hb11.cell (p := ⟨v4.heap.size, 1, none⟩) (by first | omega | (simp [ext_size]; try omega))).trans (by (simp (maxDischargeDepth := 8) [go_sem, World.cell?_alloc_past, ltk2, ltk3, ltk4, ltk5, ltk6, ltk7, ltk8, ltk9, *]))
  have cc11_14 : v11.cell? ⟨v5.heap.size, 0, none⟩ = some (.int .i64 x2) := (hb11.cell (p := ⟨v5.heap.size, 0, none⟩) (by first | omega | (simp [ext_size]; try omega))).trans (by (simp (maxDischargeDepth := 8) [go_sem, World.cell?_alloc_past, ltk2, ltk3, ltk4, ltk5, ltk6, ltk7, ltk8, ltk9, *]))
  have cc11_15 : v11.cell? ⟨v5.heap.size, 1, none⟩ = some (.int .i64 y2) := (hb11.cell (p := ⟨v5.heap.size, 1, none⟩) (by first | omega | (simp [ext_size]; try omega))).trans (by (simp (maxDischargeDepth := 8) [go_sem, World.cell?_alloc_past, ltk2, ltk3, ltk4, ltk5, ltk6, ltk7, ltk8, ltk9, *]))
  have cc11_16 : v11.cell? ⟨v6.heap.size, 0, none⟩ = some (.int .i64 x2) := (hb11.cell (p := ⟨v6.heap.size, 0, none⟩) (by first | omega | (simp [ext_size]; try omega))).trans (by (simp (maxDischargeDepth := 8) [go_sem, World.cell?_alloc_past, ltk2, ltk3, ltk4, ltk5, ltk6, ltk7, ltk8, ltk9, *]))
  have cc11_17 : v11.cell? ⟨v6.heap.size, 1, none⟩ = some (.int .i64 y2) := (hb11.cell (p := ⟨v6.heap.size, 1, none⟩) (by first | omega | (simp [ext_size]; try omega))).trans (by (simp (maxDischargeDepth := 8) [go_sem, World.cell?_alloc_past, ltk2, ltk3, ltk4, ltk5, ltk6, ltk7, ltk8, ltk9, *]))
  have cc11_18 : v11.cell? ⟨v7.heap.size, 0, none⟩ = some (.int .i64 x3) := (hb11.cell (p := ⟨v7.heap.size, 0, none⟩) (by first | omega | (simp [ext_size]; try omega))).trans (by (simp (maxDischargeDepth := 8) [go_sem, World.cell?_alloc_past, ltk2, ltk3, ltk4, ltk5, ltk6, ltk7, ltk8, ltk9, *]))
  have cc11_19 : v11.cell? ⟨v7.heap.size, 1, none⟩ = some (.int .i64 y3) := (hb11.cell (p := ⟨v7.heap.size, 1, none⟩) (by first | omega | (simp [ext_size]; try omega))).trans (by (simp (maxDischargeDepth := 8) [go_sem, World.cell?_alloc_past, ltk2, ltk3, ltk4, ltk5, ltk6, ltk7, ltk8, ltk9, *]))
  have cc11_20 : v11.cell? ⟨v8.heap.size, 0, none⟩ = some (.int .i64 x3) := (hb11.cell (p := ⟨v8.heap.size, 0, none⟩) (by first | omega | (simp [ext_size]; try omega))).trans (by (simp (maxDischargeDepth := 8) [go_sem, World.cell?_alloc_past, ltk2, ltk3, ltk4, ltk5, ltk6, ltk7, ltk8, ltk9, *]))
  have cc11_21 : v11.cell? ⟨v8.heap.size, 1, none⟩ = some (.int .i64 y3) := (hb11.cell (p := ⟨v8.heap.size, 1, none⟩) (by first | omega | (simp [ext_size]; try omega))).trans (by (simp (maxDischargeDepth := 8) [go_sem, World.cell?_alloc_past, ltk2, ltk3, ltk4, ltk5, ltk6, ltk7, ltk8, ltk9, *]))
  have zl11_0 : w.heap.size < v11.heap.size := by omega
  have zl11_1 : w.heap.size + 1 < v11.heap.size := by omega
  have zl11_2 : w.heap.size + 1 + 1 < v11.heap.size := by omega
  have zl11_3 : v1.heap.size < v11.heap.size := by omega
  have zl11_4 : v2.heap.size < v11.heap.size := by omega
  have zl11_5 : v3.heap.size < v11.heap.size := by omega
  have zl11_6 : v4.heap.size < v11.heap.size := by omega
  have zl11_7 : v5.heap.size < v11.heap.size := by omega
  have zl11_8 : v6.heap.size < v11.heap.size := by omega
  have zl11_9 : v7.heap.size < v11.heap.size := by omega
  have zl11_10 : v8.heap.size < v11.heap.size := by omega
  have hB11 : Below w.heap.size w v11 := Below.trans (by (repeat (first | with_reducible exact hB10 | (with_reducible refine bext ?_ _ _) | (with_reducible refine below_drewN ?_ _) | (with_reducible refine Below.drew ?_) | (with_reducible refine bal ?_ _) | (with_reducible refine bset ?_ (by first | omega | (simp <;> omega)) _)))) (hb11.mono (by first | omega | (simp [ext_size]; try omega)))
  clear hb11
  go_wp2_with fail
  refine (B3 _).mono ?_
  rintro e v12 ⟨rfl, hb12⟩
  have zz12 := hb12.size
  try simp [ext_size] at zz12
  have cc12_0 : v12.cell? ⟨w.heap.size, 0, none⟩ = some (.int .i64 a) := (hb12.cell (p := ⟨w.heap.size, 0, none⟩) (by first | omega | (simp [ext_size]; try omega))).trans (by (simp (maxDischargeDepth := 8) [go_sem, World.cell?_alloc_past, ltk2, ltk3, ltk4, ltk5, ltk6, ltk7, ltk8, ltk9, *]))
  have cc12_1 : v12.cell? ⟨w.heap.size, 1, none⟩ = some (.int .i64 b) := (hb12.cell (p := ⟨w.heap.size, 1, none⟩) (by first | omega | (simp [ext_size]; try omega))).trans (by (simp (maxDischargeDepth := 8) [go_sem, World.cell?_alloc_past, ltk2, ltk3, ltk4, ltk5, ltk6, ltk7, ltk8, ltk9, *]))
  have cc12_2 : v12.cell? ⟨w.heap.size + 1, 0, none⟩ = some (.int .i64 c) := (hb12.cell (p := ⟨w.heap.size + 1, 0, none⟩) (by first | omega | (simp [ext_size]; try omega))).trans (by (simp (maxDischargeDepth := 8) [go_sem, World.cell?_alloc_past, ltk2, ltk3, ltk4, ltk5, ltk6, ltk7, ltk8, ltk9, *]))
  have cc12_3 : v12.cell? ⟨w.heap.size + 1, 1, none⟩ = some (.int .i64 d) := (hb12.cell (p := ⟨w.heap.size + 1, 1, none⟩) (by first | omega | (simp [ext_size]; try omega))).trans (by (simp (maxDischargeDepth := 8) [go_sem, World.cell?_alloc_past, ltk2, ltk3, ltk4, ltk5, ltk6, ltk7, ltk8, ltk9, *]))
  have cc12_4 : v12.cell? ⟨w.heap.size + 1 + 1, 0, none⟩ = some (.int .i64 n) := (hb12.cell (p := ⟨w.heap.size + 1 + 1, 0, none⟩) (by first | omega | (simp [ext_size]; try omega))).trans (by (simp (maxDischargeDepth := 8) [go_sem, World.cell?_alloc_past, ltk2, ltk3, ltk4, ltk5, ltk6, ltk7, ltk8, ltk9, *]))
  have cc12_5 : v12.cell? ⟨w.heap.size + 1 + 1, 1, none⟩ = some (.int .i64 m) := (hb12.cell (p := ⟨w.heap.size + 1 + 1, 1, none⟩) (by first | omega | (simp [ext_size]; try omega))).trans (by (simp (maxDischargeDepth := 8) [go_sem, World.cell?_alloc_past, ltk2, ltk3, ltk4, ltk5, ltk6, ltk7, ltk8, ltk9, *]))
  have cc12_6 : v12.cell? ⟨v1.heap.size, 0, none⟩ = some (.int .i64 x0) := (hb12.cell (p := ⟨v1.heap.size, 0, none⟩) (by first | omega | (simp [ext_size]; try omega))).trans (by (simp (maxDischargeDepth := 8) [go_sem, World.cell?_alloc_past, ltk2, ltk3, ltk4, ltk5, ltk6, ltk7, ltk8, ltk9, *]))
  have cc12_7 : v12.cell? ⟨v1.heap.size, 1, none⟩ = some (.int .i64 y0) := (hb12.cell (p := ⟨v1.heap.size, 1, none⟩) (by first | omega | (simp [ext_size]; try omega))).trans (by (simp (maxDischargeDepth := 8) [go_sem, World.cell?_alloc_past, ltk2, ltk3, ltk4, ltk5, ltk6, ltk7, ltk8, ltk9, *]))
  have cc12_8 : v12.cell? ⟨v2.heap.size, 0, none⟩ = some (.int .i64 x0) := (hb12.cell (p := ⟨v2.heap.size, 0, none⟩) (by first | omega | (simp [ext_size]; try omega))).trans (by (simp (maxDischargeDepth := 8) [go_sem, World.cell?_alloc_past, ltk2, ltk3, ltk4, ltk5, ltk6, ltk7, ltk8, ltk9, *]))
  have cc12_9 : v12.cell? ⟨v2.heap.size, 1, none⟩ = some (.int .i64 y0) := (hb12.cell (p := ⟨v2.heap.size, 1, none⟩) (by first | omega | (simp [ext_size]; try omega))).trans (by (simp (maxDischargeDepth := 8) [go_sem, World.cell?_alloc_past, ltk2, ltk3, ltk4, ltk5, ltk6, ltk7, ltk8, ltk9, *]))
  have cc12_10 : v12.cell? ⟨v3.heap.size, 0, none⟩ = some (.int .i64 x1) := (hb12.cell (p := ⟨v3.heap.size, 0, none⟩) (by first | omega | (simp [ext_size]; try omega))).trans (by (simp (maxDischargeDepth := 8) [go_sem, World.cell?_alloc_past, ltk2, ltk3, ltk4, ltk5, ltk6, ltk7, ltk8, ltk9, *]))
  have cc12_11 : v12.cell? ⟨v3.heap.size, 1, none⟩ = some (.int .i64 y1) := (hb12.cell (p := ⟨v3.heap.size, 1, none⟩) (by first | omega | (simp [ext_size]; try omega))).trans (by (simp (maxDischargeDepth := 8) [go_sem, World.cell?_alloc_past, ltk2, ltk3, ltk4, ltk5, ltk6, ltk7, ltk8, ltk9, *]))
  have cc12_12 : v12.cell? ⟨v4.heap.size, 0, none⟩ = some (.int .i64 x1) := (hb12.cell (p := ⟨v4.heap.size, 0, none⟩) (by first | omega | (simp [ext_size]; try omega))).trans (by (simp (maxDischargeDepth := 8) [go_sem, World.cell?_alloc_past, ltk2, ltk3, ltk4, ltk5, ltk6, ltk7, ltk8, ltk9, *]))
  have cc12_13 : v12.cell? ⟨v4.heap.size, 1, none⟩ = some (.int .i64 y1) := (hb12.cell (p := ⟨v4.heap.size, 1, none⟩) (by first | omega | (simp [ext_size]; try omega))).trans (by (simp (maxDischargeDepth := 8) [go_sem, World.cell?_alloc_past, ltk2, ltk3, ltk4, ltk5, ltk6, ltk7, ltk8, ltk9, *]))
  have cc12_14 : v12.cell? ⟨v5.heap.size, 0, none⟩ = some (.int .i64 x2) := (hb12.cell (p := ⟨v5.heap.size, 0, none⟩) (by first | omega | (simp [ext_size]; try omega))).trans (by (simp (maxDischargeDepth := 8) [go_sem, World.cell?_alloc_past, ltk2, ltk3, ltk4, ltk5, ltk6, ltk7, ltk8, ltk9, *]))
  have cc12_15 : v12.cell? ⟨v5.heap.size, 1, none⟩ = some (.int .i64 y2) := (hb12.cell (p := ⟨v5.heap.size, 1, none⟩) (by first | omega | (simp [ext_size]; try omega))).trans (by (simp (maxDischargeDepth := 8) [go_sem, World.cell?_alloc_past, ltk2, ltk3, ltk4, ltk5, ltk6, ltk7, ltk8, ltk9, *]))
  have cc12_16 : v12.cell? ⟨v6.heap.size, 0, none⟩ = some (.int .i64 x2) := (hb12.cell (p := ⟨v6.heap.size, 0, none⟩) (by first | omega | (simp [ext_size]; try omega))).trans (by (simp (maxDischargeDepth := 8) [go_sem, World.cell?_alloc_past, ltk2, ltk3, ltk4, ltk5, ltk6, ltk7, ltk8, ltk9, *]))
  have cc12_17 : v12.cell? ⟨v6.heap.size, 1, none⟩ = some (.int .i64 y2) := (hb12.cell (p := ⟨v6.heap.size, 1, none⟩) (by first | omega | (simp [ext_size]; try omega))).trans (by (simp (maxDischargeDepth := 8) [go_sem, World.cell?_alloc_past, ltk2, ltk3, ltk4, ltk5, ltk6, ltk7, ltk8, ltk9, *]))
  have cc12_18 : v12.cell? ⟨v7.heap.size, 0, none⟩ = some (.int .i64 x3) := (hb12.cell (p := ⟨v7.heap.size, 0, none⟩) (by first | omega | (simp [ext_size]; try omega))).trans (by (simp (maxDischargeDepth := 8) [go_sem, World.cell?_alloc_past, ltk2, ltk3, ltk4, ltk5, ltk6, ltk7, ltk8, ltk9, *]))
  have cc12_19 : v12.cell? ⟨v7.heap.size, 1, none⟩ = some (.int .i64 y3) := (hb12.cell (p := ⟨v7.heap.size, 1, none⟩) (by first | omega | (simp [ext_size]; try omega))).trans (by (simp (maxDischargeDepth := 8) [go_sem, World.cell?_alloc_past, ltk2, ltk3, ltk4, ltk5, ltk6, ltk7, ltk8, ltk9, *]))
  have cc12_20 : v12.cell? ⟨v8.heap.size, 0, none⟩ = some (.int .i64 x3) := (hb12.cell (p := ⟨v8.heap.size, 0, none⟩) (by first | omega | (simp [ext_size]; try omega))).trans (by (simp (maxDischargeDepth := 8) [go_sem, World.cell?_alloc_past, ltk2, ltk3, ltk4, ltk5, ltk6, ltk7, ltk8, ltk9, *]))
  have cc12_21 : v12.cell? ⟨v8.heap.size, 1, none⟩ = some (.int .i64 y3) := (hb12.cell (p := ⟨v8.heap.size, 1, none⟩) (by first | omega | (simp [ext_size]; try omega))).trans (by (simp (maxDischargeDepth := 8) [go_sem, World.cell?_alloc_past, ltk2, ltk3, ltk4, ltk5, ltk6, ltk7, ltk8, ltk9, *]))
  have zl12_0 : w.heap.size < v12.heap.size := by omega
  have zl12_1 : w.heap.size + 1 < v12.heap.size := by omega
  have zl12_2 : w.heap.size + 1 + 1 < v12.heap.size := by omega
  have zl12_3 : v1.heap.size < v12.heap.size := by omega
  have zl12_4 : v2.heap.size < v12.heap.size := by omega
  have zl12_5 : v3.heap.size < v12.heap.size := by omega
  have zl12_6 : v4.heap.size < v12.heap.size := by omega
  have zl12_7 : v5.heap.size < v12.heap.size := by omega
  have zl12_8 : v6.heap.size < v12.heap.size := by omega
  have zl12_9 : v7.heap.size < v12.heap.size := by omega
  have zl12_10 : v8.heap.size < v12.heap.size := by omega
  have hB12 : Below w.heap.size w v12 := Below.trans (by (repeat (first | with_reducible exact hB11 | (with_reducible refine bext ?_ _ _) | (with_reducible refine below_drewN ?_ _) | (with_reducible refine Below.drew ?_) | (with_reducible refine bal ?_ _) | (with_reducible refine bset ?_ (by first | omega | (simp <;> omega)) _)))) (hb12.mono (by first | omega | (simp [ext_size]; try omega)))
  clear hb12
  go_wp2
  go_ret
  exact ⟨rfl, by (repeat (first | with_reducible exact hB12 | (with_reducible refine bext ?_ _ _) | (with_reducible refine below_drewN ?_ _) | (with_reducible refine Below.drew ?_) | (with_reducible refine bal ?_ _) | (with_reducible refine bset ?_ (by first | omega | (simp <;> omega)) _)))⟩
end Go.Proofs.Ytilcgbloangcmaa
