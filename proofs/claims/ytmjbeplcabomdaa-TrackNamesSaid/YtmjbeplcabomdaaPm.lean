/-
  The laws' own small functions, and the chapter's examples.
-/
import Derived.Test.YtmjbeplcabomdaaQe
import Derived.Test.YtmjbeplcabomdaaPj
import Derived.Test.YtmjbeplcabomdaaSb
namespace Go.Proofs.Ytmjbeplcabomdaa
open Go.RowKit
set_option linter.unusedVariables false
set_option linter.unusedSimpArgs false
/-- The name of the examples. -/
def sN : ByteArray := { data := #[115] }
theorem sN_name : nameB sN = true := by decide +kernel
theorem sN_src (ra dec : Int) (h1 : 0 ≤ ra) (h2 : ra < 720) (h3 : -180 ≤ dec) (h4 : dec ≤ 180) : srE sN ra dec = 0 := by
  rw [srE, if_pos sN_name, if_neg (by omega), if_neg (by omega), if_neg (by omega), if_neg (by omega)]

set_option maxHeartbeats 400000 in
theorem law6_named (ra dec : Int) (w : World) : Calls Try.prog 9 #[.int .i64 ra, .int .i64 dec] w fun e w' => e = .returned (.agg #[.string sN, .int .i64 ra, .int .i64 dec]) ∧ Below w.heap.size w w' := by
  go_enter Try.func9, Try.ntmps9
  go_wp2
  refine bodyPost_ret (by simp [results, Try.results9, go_sem, ext_cell, World.cell?_alloc_past, ltk2, ltk3, ltk4, ltk5, ltk6, ltk7, ltk8, ltk9, *]; try rfl) rfl ?_
  exact ⟨rfl, by (repeat (first | with_reducible exact b0 _ | (with_reducible refine bext ?_ _ _) | (with_reducible refine below_drewN ?_ _) | (with_reducible refine Below.drew ?_) | (with_reducible refine bal ?_ _)))⟩
set_option maxHeartbeats 400000 in
theorem law6_of (n : Int) (w : World) : Calls Try.prog 12 #[.int .i64 n] w fun e w' => e = .returned (.agg #[.int .i64 n, .int .i64 n]) ∧ Below w.heap.size w w' := by
  go_enter Try.func12, Try.ntmps12
  go_wp2
  refine bodyPost_ret (by simp [results, Try.results12, go_sem, ext_cell, World.cell?_alloc_past, ltk2, ltk3, ltk4, ltk5, ltk6, ltk7, ltk8, ltk9, *]; try rfl) rfl ?_
  exact ⟨rfl, by (repeat (first | with_reducible exact b0 _ | (with_reducible refine bext ?_ _ _) | (with_reducible refine below_drewN ?_ _) | (with_reducible refine Below.drew ?_) | (with_reducible refine bal ?_ _)))⟩
set_option maxRecDepth 100000 in
set_option maxHeartbeats 3200000 in
theorem law6_alive (w : World) : Calls Try.prog 16 #[] w fun x w' => x = .returned (.bool true) ∧ Below w.heap.size w w' := by
  have B0 := fun w => track_At_ok sN 0 0 0 (sN_src _ _ (by omega) (by omega) (by omega) (by omega)) (by decide) w
  rw [show dxL 0 (0 - 0) = 1000000 by decide +kernel, show dxH 0 (0 - 0) = 1000000 by decide +kernel, show dyL 0 (0 - 0) = 0 by decide +kernel, show dyH 0 (0 - 0) = 0 by decide +kernel, show sL 0 = 0 by decide +kernel, show sH 0 = 0 by decide +kernel] at B0
  have B1 := fun w => track_At_ok sN 0 0 180 (sN_src _ _ (by omega) (by omega) (by omega) (by omega)) (by decide) w
  rw [show dxL 0 (0 - 180) = 0 by decide +kernel, show dxH 0 (0 - 180) = 0 by decide +kernel, show dyL 0 (0 - 180) = -1000000 by decide +kernel, show dyH 0 (0 - 180) = -1000000 by decide +kernel, show sL 0 = 0 by decide +kernel, show sH 0 = 0 by decide +kernel] at B1
  have B2 := fun w => track_At_ok sN 0 60 0 (sN_src _ _ (by omega) (by omega) (by omega) (by omega)) (by decide) w
  rw [show dxL 60 (0 - 0) = 866025 by decide +kernel, show dxH 60 (0 - 0) = 866026 by decide +kernel, show dyL 60 (0 - 0) = 0 by decide +kernel, show dyH 60 (0 - 0) = 0 by decide +kernel, show sL 60 = 500000 by decide +kernel, show sH 60 = 500000 by decide +kernel] at B2
  have B3 := fun w => track_At_ok sN 5 180 77 (sN_src _ _ (by omega) (by omega) (by omega) (by omega)) (by decide) w
  rw [show dxL 180 (5 - 77) = 0 by decide +kernel, show dxH 180 (5 - 77) = 0 by decide +kernel, show dyL 180 (5 - 77) = 0 by decide +kernel, show dyH 180 (5 - 77) = 0 by decide +kernel, show sL 180 = 1000000 by decide +kernel, show sH 180 = 1000000 by decide +kernel] at B3
  have B4 := fun w => track_Apart_ok sN sN 0 180 0 60 500000 500000 0 (sN_src _ _ (by omega) (by omega) (by omega) (by omega)) (sN_src _ _ (by omega) (by omega) (by omega) (by omega)) (by decide +kernel) w
  have N1 := fun w => law6_named 0 0 w
  have N2 := fun w => law6_named 0 60 w
  have N3 := fun w => law6_named 5 180 w
  have N4 := fun w => law6_named 0 180 w
  have O1 := fun w => law6_of 1000000 w
  have O2 := fun w => law6_of 0 w
  have O3 := fun w => law6_of (-1000000) w
  have O4 := fun w => law6_of 500000 w
  generalize sN = nm at *
  have dAl := dAl; have dSt := dSt; have xC := ext_cell; have xF := ext_frozen; have xS := ext_set; have xN := ext_drewN; have xD := ext_drew; have xL := ext_lt; have xE := ext_ne; have xG := ext_nr; have xX := ext_ext; have xL1 := ext_lt1; have xL2 := ext_lt2; have xL3 := ext_lt3; have xM0 := ext_le0; have xM1 := ext_le1; have xM2 := ext_le2
  go_enter Try.func16, Try.ntmps16
  go_wp2_with fail
  with_reducible refine (N1 _).mono ?_
  rintro e v1 ⟨rfl, hb1⟩
  have zz1 := hb1.size
  try simp [ext_size] at zz1
  have hB1 : Below w.heap.size w v1 := Below.trans (by (repeat (first | with_reducible exact b0 _ | (with_reducible refine bext ?_ _ _) | (with_reducible refine below_drewN ?_ _) | (with_reducible refine Below.drew ?_) | (with_reducible refine bal ?_ _)))) (hb1.mono (by first | omega | (simp [ext_size]; try omega)))
  have zw1 := hB1.size
  clear hb1
  go_wp2_with fail
  with_reducible refine (B0 _).mono ?_
  rintro e v2 ⟨rfl, hb2⟩
  have zz2 := hb2.size
  try simp [ext_size] at zz2
  have hB2 : Below w.heap.size w v2 := Below.trans (by (repeat (first | with_reducible exact hB1 | (with_reducible refine bext ?_ _ _) | (with_reducible refine below_drewN ?_ _) | (with_reducible refine Below.drew ?_) | (with_reducible refine bal ?_ _) | (with_reducible refine bset ?_ (by first | omega | (simp <;> omega)) _)))) (hb2.mono (by first | omega | (simp [ext_size]; try omega)))
  have zw2 := hB2.size
  clear hb2
  clear zz1 zw1 hB1
  go_wp2_with fail
  with_reducible refine (N1 _).mono ?_
  rintro e v3 ⟨rfl, hb3⟩
  have zz3 := hb3.size
  try simp [ext_size] at zz3
  have cc3_0 : v3.cell? ⟨v2.heap.size, 0, none⟩ = some (.int .i64 1000000) := (hb3.cell (p := ⟨v2.heap.size, 0, none⟩) (by first | omega | (simp [ext_size]; try omega))).trans (by (simp (maxDischargeDepth := 8) [go_sem, World.cell?_alloc_past, ltk2, ltk3, ltk4, ltk5, ltk6, ltk7, ltk8, ltk9, *]))
  have cc3_1 : v3.cell? ⟨v2.heap.size, 1, none⟩ = some (.int .i64 1000000) := (hb3.cell (p := ⟨v2.heap.size, 1, none⟩) (by first | omega | (simp [ext_size]; try omega))).trans (by (simp (maxDischargeDepth := 8) [go_sem, World.cell?_alloc_past, ltk2, ltk3, ltk4, ltk5, ltk6, ltk7, ltk8, ltk9, *]))
  have cc3_2 : v3.cell? ⟨v2.heap.size, 2, none⟩ = some (.int .i64 0) := (hb3.cell (p := ⟨v2.heap.size, 2, none⟩) (by first | omega | (simp [ext_size]; try omega))).trans (by (simp (maxDischargeDepth := 8) [go_sem, World.cell?_alloc_past, ltk2, ltk3, ltk4, ltk5, ltk6, ltk7, ltk8, ltk9, *]))
  have cc3_3 : v3.cell? ⟨v2.heap.size, 3, none⟩ = some (.int .i64 0) := (hb3.cell (p := ⟨v2.heap.size, 3, none⟩) (by first | omega | (simp [ext_size]; try omega))).trans (by (simp (maxDischargeDepth := 8) [go_sem, World.cell?_alloc_past, ltk2, ltk3, ltk4, ltk5, ltk6, ltk7, ltk8, ltk9, *]))
  have cc3_4 : v3.cell? ⟨v2.heap.size, 4, none⟩ = some (.int .i64 0) := (hb3.cell (p := ⟨v2.heap.size, 4, none⟩) (by first | omega | (simp [ext_size]; try omega))).trans (by (simp (maxDischargeDepth := 8) [go_sem, World.cell?_alloc_past, ltk2, ltk3, ltk4, ltk5, ltk6, ltk7, ltk8, ltk9, *]))
  have cc3_5 : v3.cell? ⟨v2.heap.size, 5, none⟩ = some (.int .i64 0) := (hb3.cell (p := ⟨v2.heap.size, 5, none⟩) (by first | omega | (simp [ext_size]; try omega))).trans (by (simp (maxDischargeDepth := 8) [go_sem, World.cell?_alloc_past, ltk2, ltk3, ltk4, ltk5, ltk6, ltk7, ltk8, ltk9, *]))
  have zl3_0 : v2.heap.size < v3.heap.size := by omega
  have hB3 : Below w.heap.size w v3 := Below.trans (by (repeat (first | with_reducible exact hB2 | (with_reducible refine bext ?_ _ _) | (with_reducible refine below_drewN ?_ _) | (with_reducible refine Below.drew ?_) | (with_reducible refine bal ?_ _) | (with_reducible refine bset ?_ (by first | omega | (simp <;> omega)) _)))) (hb3.mono (by first | omega | (simp [ext_size]; try omega)))
  have zw3 := hB3.size
  clear hb3
  clear zz2 zw2 hB2
  go_wp2_with fail
  with_reducible refine (B1 _).mono ?_
  rintro e v4 ⟨rfl, hb4⟩
  have zz4 := hb4.size
  try simp [ext_size] at zz4
  have cc4_0 : v4.cell? ⟨v2.heap.size, 0, none⟩ = some (.int .i64 1000000) := (hb4.cell (p := ⟨v2.heap.size, 0, none⟩) (by first | omega | (simp [ext_size]; try omega))).trans (by (simp (maxDischargeDepth := 8) [go_sem, World.cell?_alloc_past, ltk2, ltk3, ltk4, ltk5, ltk6, ltk7, ltk8, ltk9, *]))
  have cc4_1 : v4.cell? ⟨v2.heap.size, 1, none⟩ = some (.int .i64 1000000) := (hb4.cell (p := ⟨v2.heap.size, 1, none⟩) (by first | omega | (simp [ext_size]; try omega))).trans (by (simp (maxDischargeDepth := 8) [go_sem, World.cell?_alloc_past, ltk2, ltk3, ltk4, ltk5, ltk6, ltk7, ltk8, ltk9, *]))
  have cc4_2 : v4.cell? ⟨v2.heap.size, 2, none⟩ = some (.int .i64 0) := (hb4.cell (p := ⟨v2.heap.size, 2, none⟩) (by first | omega | (simp [ext_size]; try omega))).trans (by (simp (maxDischargeDepth := 8) [go_sem, World.cell?_alloc_past, ltk2, ltk3, ltk4, ltk5, ltk6, ltk7, ltk8, ltk9, *]))
  have cc4_3 : v4.cell? ⟨v2.heap.size, 3, none⟩ = some (.int .i64 0) := (hb4.cell (p := ⟨v2.heap.size, 3, none⟩) (by first | omega | (simp [ext_size]; try omega))).trans (by (simp (maxDischargeDepth := 8) [go_sem, World.cell?_alloc_past, ltk2, ltk3, ltk4, ltk5, ltk6, ltk7, ltk8, ltk9, *]))
  have cc4_4 : v4.cell? ⟨v2.heap.size, 4, none⟩ = some (.int .i64 0) := (hb4.cell (p := ⟨v2.heap.size, 4, none⟩) (by first | omega | (simp [ext_size]; try omega))).trans (by (simp (maxDischargeDepth := 8) [go_sem, World.cell?_alloc_past, ltk2, ltk3, ltk4, ltk5, ltk6, ltk7, ltk8, ltk9, *]))
  have cc4_5 : v4.cell? ⟨v2.heap.size, 5, none⟩ = some (.int .i64 0) := (hb4.cell (p := ⟨v2.heap.size, 5, none⟩) (by first | omega | (simp [ext_size]; try omega))).trans (by (simp (maxDischargeDepth := 8) [go_sem, World.cell?_alloc_past, ltk2, ltk3, ltk4, ltk5, ltk6, ltk7, ltk8, ltk9, *]))
  have zl4_0 : v2.heap.size < v4.heap.size := by omega
  have hB4 : Below w.heap.size w v4 := Below.trans (by (repeat (first | with_reducible exact hB3 | (with_reducible refine bext ?_ _ _) | (with_reducible refine below_drewN ?_ _) | (with_reducible refine Below.drew ?_) | (with_reducible refine bal ?_ _) | (with_reducible refine bset ?_ (by first | omega | (simp <;> omega)) _)))) (hb4.mono (by first | omega | (simp [ext_size]; try omega)))
  have zw4 := hB4.size
  clear hb4
  clear cc3_0 cc3_1 cc3_2 cc3_3 cc3_4 cc3_5 zl3_0 zz3 zw3 hB3
  go_wp2_with fail
  with_reducible refine (N2 _).mono ?_
  rintro e v5 ⟨rfl, hb5⟩
  have zz5 := hb5.size
  try simp [ext_size] at zz5
  have cc5_0 : v5.cell? ⟨v2.heap.size, 0, none⟩ = some (.int .i64 1000000) := (hb5.cell (p := ⟨v2.heap.size, 0, none⟩) (by first | omega | (simp [ext_size]; try omega))).trans (by (simp (maxDischargeDepth := 8) [go_sem, World.cell?_alloc_past, ltk2, ltk3, ltk4, ltk5, ltk6, ltk7, ltk8, ltk9, *]))
  have cc5_1 : v5.cell? ⟨v2.heap.size, 1, none⟩ = some (.int .i64 1000000) := (hb5.cell (p := ⟨v2.heap.size, 1, none⟩) (by first | omega | (simp [ext_size]; try omega))).trans (by (simp (maxDischargeDepth := 8) [go_sem, World.cell?_alloc_past, ltk2, ltk3, ltk4, ltk5, ltk6, ltk7, ltk8, ltk9, *]))
  have cc5_2 : v5.cell? ⟨v2.heap.size, 2, none⟩ = some (.int .i64 0) := (hb5.cell (p := ⟨v2.heap.size, 2, none⟩) (by first | omega | (simp [ext_size]; try omega))).trans (by (simp (maxDischargeDepth := 8) [go_sem, World.cell?_alloc_past, ltk2, ltk3, ltk4, ltk5, ltk6, ltk7, ltk8, ltk9, *]))
  have cc5_3 : v5.cell? ⟨v2.heap.size, 3, none⟩ = some (.int .i64 0) := (hb5.cell (p := ⟨v2.heap.size, 3, none⟩) (by first | omega | (simp [ext_size]; try omega))).trans (by (simp (maxDischargeDepth := 8) [go_sem, World.cell?_alloc_past, ltk2, ltk3, ltk4, ltk5, ltk6, ltk7, ltk8, ltk9, *]))
  have cc5_4 : v5.cell? ⟨v2.heap.size, 4, none⟩ = some (.int .i64 0) := (hb5.cell (p := ⟨v2.heap.size, 4, none⟩) (by first | omega | (simp [ext_size]; try omega))).trans (by (simp (maxDischargeDepth := 8) [go_sem, World.cell?_alloc_past, ltk2, ltk3, ltk4, ltk5, ltk6, ltk7, ltk8, ltk9, *]))
  have cc5_5 : v5.cell? ⟨v2.heap.size, 5, none⟩ = some (.int .i64 0) := (hb5.cell (p := ⟨v2.heap.size, 5, none⟩) (by first | omega | (simp [ext_size]; try omega))).trans (by (simp (maxDischargeDepth := 8) [go_sem, World.cell?_alloc_past, ltk2, ltk3, ltk4, ltk5, ltk6, ltk7, ltk8, ltk9, *]))
  have cc5_6 : v5.cell? ⟨v4.heap.size, 0, none⟩ = some (.int .i64 0) := (hb5.cell (p := ⟨v4.heap.size, 0, none⟩) (by first | omega | (simp [ext_size]; try omega))).trans (by (simp (maxDischargeDepth := 8) [go_sem, World.cell?_alloc_past, ltk2, ltk3, ltk4, ltk5, ltk6, ltk7, ltk8, ltk9, *]))
  have cc5_7 : v5.cell? ⟨v4.heap.size, 1, none⟩ = some (.int .i64 0) := (hb5.cell (p := ⟨v4.heap.size, 1, none⟩) (by first | omega | (simp [ext_size]; try omega))).trans (by (simp (maxDischargeDepth := 8) [go_sem, World.cell?_alloc_past, ltk2, ltk3, ltk4, ltk5, ltk6, ltk7, ltk8, ltk9, *]))
  have cc5_8 : v5.cell? ⟨v4.heap.size, 2, none⟩ = some (.int .i64 (-1000000)) := (hb5.cell (p := ⟨v4.heap.size, 2, none⟩) (by first | omega | (simp [ext_size]; try omega))).trans (by (simp (maxDischargeDepth := 8) [go_sem, World.cell?_alloc_past, ltk2, ltk3, ltk4, ltk5, ltk6, ltk7, ltk8, ltk9, *]))
  have cc5_9 : v5.cell? ⟨v4.heap.size, 3, none⟩ = some (.int .i64 (-1000000)) := (hb5.cell (p := ⟨v4.heap.size, 3, none⟩) (by first | omega | (simp [ext_size]; try omega))).trans (by (simp (maxDischargeDepth := 8) [go_sem, World.cell?_alloc_past, ltk2, ltk3, ltk4, ltk5, ltk6, ltk7, ltk8, ltk9, *]))
  have cc5_10 : v5.cell? ⟨v4.heap.size, 4, none⟩ = some (.int .i64 0) := (hb5.cell (p := ⟨v4.heap.size, 4, none⟩) (by first | omega | (simp [ext_size]; try omega))).trans (by (simp (maxDischargeDepth := 8) [go_sem, World.cell?_alloc_past, ltk2, ltk3, ltk4, ltk5, ltk6, ltk7, ltk8, ltk9, *]))
  have cc5_11 : v5.cell? ⟨v4.heap.size, 5, none⟩ = some (.int .i64 0) := (hb5.cell (p := ⟨v4.heap.size, 5, none⟩) (by first | omega | (simp [ext_size]; try omega))).trans (by (simp (maxDischargeDepth := 8) [go_sem, World.cell?_alloc_past, ltk2, ltk3, ltk4, ltk5, ltk6, ltk7, ltk8, ltk9, *]))
  have zl5_0 : v2.heap.size < v5.heap.size := by omega
  have zl5_1 : v4.heap.size < v5.heap.size := by omega
  have hB5 : Below w.heap.size w v5 := Below.trans (by (repeat (first | with_reducible exact hB4 | (with_reducible refine bext ?_ _ _) | (with_reducible refine below_drewN ?_ _) | (with_reducible refine Below.drew ?_) | (with_reducible refine bal ?_ _) | (with_reducible refine bset ?_ (by first | omega | (simp <;> omega)) _)))) (hb5.mono (by first | omega | (simp [ext_size]; try omega)))
  have zw5 := hB5.size
  clear hb5
  clear cc4_0 cc4_1 cc4_2 cc4_3 cc4_4 cc4_5 zl4_0 zz4 zw4 hB4
  go_wp2_with fail
  with_reducible refine (B2 _).mono ?_
  rintro e v6 ⟨rfl, hb6⟩
  have zz6 := hb6.size
  try simp [ext_size] at zz6
  have cc6_0 : v6.cell? ⟨v2.heap.size, 0, none⟩ = some (.int .i64 1000000) := (hb6.cell (p := ⟨v2.heap.size, 0, none⟩) (by first | omega | (simp [ext_size]; try omega))).trans (by (simp (maxDischargeDepth := 8) [go_sem, World.cell?_alloc_past, ltk2, ltk3, ltk4, ltk5, ltk6, ltk7, ltk8, ltk9, *]))
  have cc6_1 : v6.cell? ⟨v2.heap.size, 1, none⟩ = some (.int .i64 1000000) := (hb6.cell (p := ⟨v2.heap.size, 1, none⟩) (by first | omega | (simp [ext_size]; try omega))).trans (by (simp (maxDischargeDepth := 8) [go_sem, World.cell?_alloc_past, ltk2, ltk3, ltk4, ltk5, ltk6, ltk7, ltk8, ltk9, *]))
  have cc6_2 : v6.cell? ⟨v2.heap.size, 2, none⟩ = some (.int .i64 0) := (hb6.cell (p := ⟨v2.heap.size, 2, none⟩) (by first | omega | (simp [ext_size]; try omega))).trans (by (simp (maxDischargeDepth := 8) [go_sem, World.cell?_alloc_past, ltk2, ltk3, ltk4, ltk5, ltk6, ltk7, ltk8, ltk9, *]))
  have cc6_3 : v6.cell? ⟨v2.heap.size, 3, none⟩ = some (.int .i64 0) := (hb6.cell (p := ⟨v2.heap.size, 3, none⟩) (by first | omega | (simp [ext_size]; try omega))).trans (by (simp (maxDischargeDepth := 8) [go_sem, World.cell?_alloc_past, ltk2, ltk3, ltk4, ltk5, ltk6, ltk7, ltk8, ltk9, *]))
  have cc6_4 : v6.cell? ⟨v2.heap.size, 4, none⟩ = some (.int .i64 0) := (hb6.cell (p := ⟨v2.heap.size, 4, none⟩) (by first | omega | (simp [ext_size]; try omega))).trans (by (simp (maxDischargeDepth := 8) [go_sem, World.cell?_alloc_past, ltk2, ltk3, ltk4, ltk5, ltk6, ltk7, ltk8, ltk9, *]))
  have cc6_5 : v6.cell? ⟨v2.heap.size, 5, none⟩ = some (.int .i64 0) := (hb6.cell (p := ⟨v2.heap.size, 5, none⟩) (by first | omega | (simp [ext_size]; try omega))).trans (by (simp (maxDischargeDepth := 8) [go_sem, World.cell?_alloc_past, ltk2, ltk3, ltk4, ltk5, ltk6, ltk7, ltk8, ltk9, *]))
  have cc6_6 : v6.cell? ⟨v4.heap.size, 0, none⟩ = some (.int .i64 0) := (hb6.cell (p := ⟨v4.heap.size, 0, none⟩) (by first | omega | (simp [ext_size]; try omega))).trans (by (simp (maxDischargeDepth := 8) [go_sem, World.cell?_alloc_past, ltk2, ltk3, ltk4, ltk5, ltk6, ltk7, ltk8, ltk9, *]))
  have cc6_7 : v6.cell? ⟨v4.heap.size, 1, none⟩ = some (.int .i64 0) := (hb6.cell (p := ⟨v4.heap.size, 1, none⟩) (by first | omega | (simp [ext_size]; try omega))).trans (by (simp (maxDischargeDepth := 8) [go_sem, World.cell?_alloc_past, ltk2, ltk3, ltk4, ltk5, ltk6, ltk7, ltk8, ltk9, *]))
  have cc6_8 : v6.cell? ⟨v4.heap.size, 2, none⟩ = some (.int .i64 (-1000000)) := (hb6.cell (p := ⟨v4.heap.size, 2, none⟩) (by first | omega | (simp [ext_size]; try omega))).trans (by (simp (maxDischargeDepth := 8) [go_sem, World.cell?_alloc_past, ltk2, ltk3, ltk4, ltk5, ltk6, ltk7, ltk8, ltk9, *]))
  have cc6_9 : v6.cell? ⟨v4.heap.size, 3, none⟩ = some (.int .i64 (-1000000)) := (hb6.cell (p := ⟨v4.heap.size, 3, none⟩) (by first | omega | (simp [ext_size]; try omega))).trans (by (simp (maxDischargeDepth := 8) [go_sem, World.cell?_alloc_past, ltk2, ltk3, ltk4, ltk5, ltk6, ltk7, ltk8, ltk9, *]))
  have cc6_10 : v6.cell? ⟨v4.heap.size, 4, none⟩ = some (.int .i64 0) := (hb6.cell (p := ⟨v4.heap.size, 4, none⟩) (by first | omega | (simp [ext_size]; try omega))).trans (by (simp (maxDischargeDepth := 8) [go_sem, World.cell?_alloc_past, ltk2, ltk3, ltk4, ltk5, ltk6, ltk7, ltk8, ltk9, *]))
  have cc6_11 : v6.cell? ⟨v4.heap.size, 5, none⟩ = some (.int .i64 0) := (hb6.cell (p := ⟨v4.heap.size, 5, none⟩) (by first | omega | (simp [ext_size]; try omega))).trans (by (simp (maxDischargeDepth := 8) [go_sem, World.cell?_alloc_past, ltk2, ltk3, ltk4, ltk5, ltk6, ltk7, ltk8, ltk9, *]))
  have zl6_0 : v2.heap.size < v6.heap.size := by omega
  have zl6_1 : v4.heap.size < v6.heap.size := by omega
  have hB6 : Below w.heap.size w v6 := Below.trans (by (repeat (first | with_reducible exact hB5 | (with_reducible refine bext ?_ _ _) | (with_reducible refine below_drewN ?_ _) | (with_reducible refine Below.drew ?_) | (with_reducible refine bal ?_ _) | (with_reducible refine bset ?_ (by first | omega | (simp <;> omega)) _)))) (hb6.mono (by first | omega | (simp [ext_size]; try omega)))
  have zw6 := hB6.size
  clear hb6
  clear cc5_0 cc5_1 cc5_2 cc5_3 cc5_4 cc5_5 cc5_6 cc5_7 cc5_8 cc5_9 cc5_10 cc5_11 zl5_0 zl5_1 zz5 zw5 hB5
  go_wp2_with fail
  with_reducible refine (N3 _).mono ?_
  rintro e v7 ⟨rfl, hb7⟩
  have zz7 := hb7.size
  try simp [ext_size] at zz7
  have cc7_0 : v7.cell? ⟨v2.heap.size, 0, none⟩ = some (.int .i64 1000000) := (hb7.cell (p := ⟨v2.heap.size, 0, none⟩) (by first | omega | (simp [ext_size]; try omega))).trans (by (simp (maxDischargeDepth := 8) [go_sem, World.cell?_alloc_past, ltk2, ltk3, ltk4, ltk5, ltk6, ltk7, ltk8, ltk9, *]))
  have cc7_1 : v7.cell? ⟨v2.heap.size, 1, none⟩ = some (.int .i64 1000000) := (hb7.cell (p := ⟨v2.heap.size, 1, none⟩) (by first | omega | (simp [ext_size]; try omega))).trans (by (simp (maxDischargeDepth := 8) [go_sem, World.cell?_alloc_past, ltk2, ltk3, ltk4, ltk5, ltk6, ltk7, ltk8, ltk9, *]))
  have cc7_2 : v7.cell? ⟨v2.heap.size, 2, none⟩ = some (.int .i64 0) := (hb7.cell (p := ⟨v2.heap.size, 2, none⟩) (by first | omega | (simp [ext_size]; try omega))).trans (by (simp (maxDischargeDepth := 8) [go_sem, World.cell?_alloc_past, ltk2, ltk3, ltk4, ltk5, ltk6, ltk7, ltk8, ltk9, *]))
  have cc7_3 : v7.cell? ⟨v2.heap.size, 3, none⟩ = some (.int .i64 0) := (hb7.cell (p := ⟨v2.heap.size, 3, none⟩) (by first | omega | (simp [ext_size]; try omega))).trans (by (simp (maxDischargeDepth := 8) [go_sem, World.cell?_alloc_past, ltk2, ltk3, ltk4, ltk5, ltk6, ltk7, ltk8, ltk9, *]))
  have cc7_4 : v7.cell? ⟨v2.heap.size, 4, none⟩ = some (.int .i64 0) := (hb7.cell (p := ⟨v2.heap.size, 4, none⟩) (by first | omega | (simp [ext_size]; try omega))).trans (by (simp (maxDischargeDepth := 8) [go_sem, World.cell?_alloc_past, ltk2, ltk3, ltk4, ltk5, ltk6, ltk7, ltk8, ltk9, *]))
  have cc7_5 : v7.cell? ⟨v2.heap.size, 5, none⟩ = some (.int .i64 0) := (hb7.cell (p := ⟨v2.heap.size, 5, none⟩) (by first | omega | (simp [ext_size]; try omega))).trans (by (simp (maxDischargeDepth := 8) [go_sem, World.cell?_alloc_past, ltk2, ltk3, ltk4, ltk5, ltk6, ltk7, ltk8, ltk9, *]))
  have cc7_6 : v7.cell? ⟨v4.heap.size, 0, none⟩ = some (.int .i64 0) := (hb7.cell (p := ⟨v4.heap.size, 0, none⟩) (by first | omega | (simp [ext_size]; try omega))).trans (by (simp (maxDischargeDepth := 8) [go_sem, World.cell?_alloc_past, ltk2, ltk3, ltk4, ltk5, ltk6, ltk7, ltk8, ltk9, *]))
  have cc7_7 : v7.cell? ⟨v4.heap.size, 1, none⟩ = some (.int .i64 0) := (hb7.cell (p := ⟨v4.heap.size, 1, none⟩) (by first | omega | (simp [ext_size]; try omega))).trans (by (simp (maxDischargeDepth := 8) [go_sem, World.cell?_alloc_past, ltk2, ltk3, ltk4, ltk5, ltk6, ltk7, ltk8, ltk9, *]))
  have cc7_8 : v7.cell? ⟨v4.heap.size, 2, none⟩ = some (.int .i64 (-1000000)) := (hb7.cell (p := ⟨v4.heap.size, 2, none⟩) (by first | omega | (simp [ext_size]; try omega))).trans (by (simp (maxDischargeDepth := 8) [go_sem, World.cell?_alloc_past, ltk2, ltk3, ltk4, ltk5, ltk6, ltk7, ltk8, ltk9, *]))
  have cc7_9 : v7.cell? ⟨v4.heap.size, 3, none⟩ = some (.int .i64 (-1000000)) := (hb7.cell (p := ⟨v4.heap.size, 3, none⟩) (by first | omega | (simp [ext_size]; try omega))).trans (by (simp (maxDischargeDepth := 8) [go_sem, World.cell?_alloc_past, ltk2, ltk3, ltk4, ltk5, ltk6, ltk7, ltk8, ltk9, *]))
  have cc7_10 : v7.cell? ⟨v4.heap.size, 4, none⟩ = some (.int .i64 0) := (hb7.cell (p := ⟨v4.heap.size, 4, none⟩) (by first | omega | (simp [ext_size]; try omega))).trans (by (simp (maxDischargeDepth := 8) [go_sem, World.cell?_alloc_past, ltk2, ltk3, ltk4, ltk5, ltk6, ltk7, ltk8, ltk9, *]))
  have cc7_11 : v7.cell? ⟨v4.heap.size, 5, none⟩ = some (.int .i64 0) := (hb7.cell (p := ⟨v4.heap.size, 5, none⟩) (by first | omega | (simp [ext_size]; try omega))).trans (by (simp (maxDischargeDepth := 8) [go_sem, World.cell?_alloc_past, ltk2, ltk3, ltk4, ltk5, ltk6, ltk7, ltk8, ltk9, *]))
  have cc7_12 : v7.cell? ⟨v6.heap.size, 0, none⟩ = some (.int .i64 866025) := (hb7.cell (p := ⟨v6.heap.size, 0, none⟩) (by first | omega | (simp [ext_size]; try omega))).trans (by (simp (maxDischargeDepth := 8) [go_sem, World.cell?_alloc_past, ltk2, ltk3, ltk4, ltk5, ltk6, ltk7, ltk8, ltk9, *]))
  have cc7_13 : v7.cell? ⟨v6.heap.size, 1, none⟩ = some (.int .i64 866026) := (hb7.cell (p := ⟨v6.heap.size, 1, none⟩) (by first | omega | (simp [ext_size]; try omega))).trans (by (simp (maxDischargeDepth := 8) [go_sem, World.cell?_alloc_past, ltk2, ltk3, ltk4, ltk5, ltk6, ltk7, ltk8, ltk9, *]))
  have cc7_14 : v7.cell? ⟨v6.heap.size, 2, none⟩ = some (.int .i64 0) := (hb7.cell (p := ⟨v6.heap.size, 2, none⟩) (by first | omega | (simp [ext_size]; try omega))).trans (by (simp (maxDischargeDepth := 8) [go_sem, World.cell?_alloc_past, ltk2, ltk3, ltk4, ltk5, ltk6, ltk7, ltk8, ltk9, *]))
  have cc7_15 : v7.cell? ⟨v6.heap.size, 3, none⟩ = some (.int .i64 0) := (hb7.cell (p := ⟨v6.heap.size, 3, none⟩) (by first | omega | (simp [ext_size]; try omega))).trans (by (simp (maxDischargeDepth := 8) [go_sem, World.cell?_alloc_past, ltk2, ltk3, ltk4, ltk5, ltk6, ltk7, ltk8, ltk9, *]))
  have cc7_16 : v7.cell? ⟨v6.heap.size, 4, none⟩ = some (.int .i64 500000) := (hb7.cell (p := ⟨v6.heap.size, 4, none⟩) (by first | omega | (simp [ext_size]; try omega))).trans (by (simp (maxDischargeDepth := 8) [go_sem, World.cell?_alloc_past, ltk2, ltk3, ltk4, ltk5, ltk6, ltk7, ltk8, ltk9, *]))
  have cc7_17 : v7.cell? ⟨v6.heap.size, 5, none⟩ = some (.int .i64 500000) := (hb7.cell (p := ⟨v6.heap.size, 5, none⟩) (by first | omega | (simp [ext_size]; try omega))).trans (by (simp (maxDischargeDepth := 8) [go_sem, World.cell?_alloc_past, ltk2, ltk3, ltk4, ltk5, ltk6, ltk7, ltk8, ltk9, *]))
  have zl7_0 : v2.heap.size < v7.heap.size := by omega
  have zl7_1 : v4.heap.size < v7.heap.size := by omega
  have zl7_2 : v6.heap.size < v7.heap.size := by omega
  have hB7 : Below w.heap.size w v7 := Below.trans (by (repeat (first | with_reducible exact hB6 | (with_reducible refine bext ?_ _ _) | (with_reducible refine below_drewN ?_ _) | (with_reducible refine Below.drew ?_) | (with_reducible refine bal ?_ _) | (with_reducible refine bset ?_ (by first | omega | (simp <;> omega)) _)))) (hb7.mono (by first | omega | (simp [ext_size]; try omega)))
  have zw7 := hB7.size
  clear hb7
  clear cc6_0 cc6_1 cc6_2 cc6_3 cc6_4 cc6_5 cc6_6 cc6_7 cc6_8 cc6_9 cc6_10 cc6_11 zl6_0 zl6_1 zz6 zw6 hB6
  go_wp2_with fail
  with_reducible refine (B3 _).mono ?_
  rintro e v8 ⟨rfl, hb8⟩
  have zz8 := hb8.size
  try simp [ext_size] at zz8
  have cc8_0 : v8.cell? ⟨v2.heap.size, 0, none⟩ = some (.int .i64 1000000) := (hb8.cell (p := ⟨v2.heap.size, 0, none⟩) (by first | omega | (simp [ext_size]; try omega))).trans (by (simp (maxDischargeDepth := 8) [go_sem, World.cell?_alloc_past, ltk2, ltk3, ltk4, ltk5, ltk6, ltk7, ltk8, ltk9, *]))
  have cc8_1 : v8.cell? ⟨v2.heap.size, 1, none⟩ = some (.int .i64 1000000) := (hb8.cell (p := ⟨v2.heap.size, 1, none⟩) (by first | omega | (simp [ext_size]; try omega))).trans (by (simp (maxDischargeDepth := 8) [go_sem, World.cell?_alloc_past, ltk2, ltk3, ltk4, ltk5, ltk6, ltk7, ltk8, ltk9, *]))
  have cc8_2 : v8.cell? ⟨v2.heap.size, 2, none⟩ = some (.int .i64 0) := (hb8.cell (p := ⟨v2.heap.size, 2, none⟩) (by first | omega | (simp [ext_size]; try omega))).trans (by (simp (maxDischargeDepth := 8) [go_sem, World.cell?_alloc_past, ltk2, ltk3, ltk4, ltk5, ltk6, ltk7, ltk8, ltk9, *]))
  have cc8_3 : v8.cell? ⟨v2.heap.size, 3, none⟩ = some (.int .i64 0) := (hb8.cell (p := ⟨v2.heap.size, 3, none⟩) (by first | omega | (simp [ext_size]; try omega))).trans (by (simp (maxDischargeDepth := 8) [go_sem, World.cell?_alloc_past, ltk2, ltk3, ltk4, ltk5, ltk6, ltk7, ltk8, ltk9, *]))
  have cc8_4 : v8.cell? ⟨v2.heap.size, 4, none⟩ = some (.int .i64 0) := (hb8.cell (p := ⟨v2.heap.size, 4, none⟩) (by first | omega | (simp [ext_size]; try omega))).trans (by (simp (maxDischargeDepth := 8) [go_sem, World.cell?_alloc_past, ltk2, ltk3, ltk4, ltk5, ltk6, ltk7, ltk8, ltk9, *]))
  have cc8_5 : v8.cell? ⟨v2.heap.size, 5, none⟩ = some (.int .i64 0) := (hb8.cell (p := ⟨v2.heap.size, 5, none⟩) (by first | omega | (simp [ext_size]; try omega))).trans (by (simp (maxDischargeDepth := 8) [go_sem, World.cell?_alloc_past, ltk2, ltk3, ltk4, ltk5, ltk6, ltk7, ltk8, ltk9, *]))
  have cc8_6 : v8.cell? ⟨v4.heap.size, 0, none⟩ = some (.int .i64 0) := (hb8.cell (p := ⟨v4.heap.size, 0, none⟩) (by first | omega | (simp [ext_size]; try omega))).trans (by (simp (maxDischargeDepth := 8) [go_sem, World.cell?_alloc_past, ltk2, ltk3, ltk4, ltk5, ltk6, ltk7, ltk8, ltk9, *]))
  have cc8_7 : v8.cell? ⟨v4.heap.size, 1, none⟩ = some (.int .i64 0) := (hb8.cell (p := ⟨v4.heap.size, 1, none⟩) (by first | omega | (simp [ext_size]; try omega))).trans (by (simp (maxDischargeDepth := 8) [go_sem, World.cell?_alloc_past, ltk2, ltk3, ltk4, ltk5, ltk6, ltk7, ltk8, ltk9, *]))
  have cc8_8 : v8.cell? ⟨v4.heap.size, 2, none⟩ = some (.int .i64 (-1000000)) := (hb8.cell (p := ⟨v4.heap.size, 2, none⟩) (by first | omega | (simp [ext_size]; try omega))).trans (by (simp (maxDischargeDepth := 8) [go_sem, World.cell?_alloc_past, ltk2, ltk3, ltk4, ltk5, ltk6, ltk7, ltk8, ltk9, *]))
  have cc8_9 : v8.cell? ⟨v4.heap.size, 3, none⟩ = some (.int .i64 (-1000000)) := (hb8.cell (p := ⟨v4.heap.size, 3, none⟩) (by first | omega | (simp [ext_size]; try omega))).trans (by (simp (maxDischargeDepth := 8) [go_sem, World.cell?_alloc_past, ltk2, ltk3, ltk4, ltk5, ltk6, ltk7, ltk8, ltk9, *]))
  have cc8_10 : v8.cell? ⟨v4.heap.size, 4, none⟩ = some (.int .i64 0) := (hb8.cell (p := ⟨v4.heap.size, 4, none⟩) (by first | omega | (simp [ext_size]; try omega))).trans (by (simp (maxDischargeDepth := 8) [go_sem, World.cell?_alloc_past, ltk2, ltk3, ltk4, ltk5, ltk6, ltk7, ltk8, ltk9, *]))
  have cc8_11 : v8.cell? ⟨v4.heap.size, 5, none⟩ = some (.int .i64 0) := (hb8.cell (p := ⟨v4.heap.size, 5, none⟩) (by first | omega | (simp [ext_size]; try omega))).trans (by (simp (maxDischargeDepth := 8) [go_sem, World.cell?_alloc_past, ltk2, ltk3, ltk4, ltk5, ltk6, ltk7, ltk8, ltk9, *]))
  have cc8_12 : v8.cell? ⟨v6.heap.size, 0, none⟩ = some (.int .i64 866025) := (hb8.cell (p := ⟨v6.heap.size, 0, none⟩) (by first | omega | (simp [ext_size]; try omega))).trans (by (simp (maxDischargeDepth := 8) [go_sem, World.cell?_alloc_past, ltk2, ltk3, ltk4, ltk5, ltk6, ltk7, ltk8, ltk9, *]))
  have cc8_13 : v8.cell? ⟨v6.heap.size, 1, none⟩ = some (.int .i64 866026) := (hb8.cell (p := ⟨v6.heap.size, 1, none⟩) (by first | omega | (simp [ext_size]; try omega))).trans (by (simp (maxDischargeDepth := 8) [go_sem, World.cell?_alloc_past, ltk2, ltk3, ltk4, ltk5, ltk6, ltk7, ltk8, ltk9, *]))
  have cc8_14 : v8.cell? ⟨v6.heap.size, 2, none⟩ = some (.int .i64 0) := (hb8.cell (p := ⟨v6.heap.size, 2, none⟩) (by first | omega | (simp [ext_size]; try omega))).trans (by (simp (maxDischargeDepth := 8) [go_sem, World.cell?_alloc_past, ltk2, ltk3, ltk4, ltk5, ltk6, ltk7, ltk8, ltk9, *]))
  have cc8_15 : v8.cell? ⟨v6.heap.size, 3, none⟩ = some (.int .i64 0) := (hb8.cell (p := ⟨v6.heap.size, 3, none⟩) (by first | omega | (simp [ext_size]; try omega))).trans (by (simp (maxDischargeDepth := 8) [go_sem, World.cell?_alloc_past, ltk2, ltk3, ltk4, ltk5, ltk6, ltk7, ltk8, ltk9, *]))
  have cc8_16 : v8.cell? ⟨v6.heap.size, 4, none⟩ = some (.int .i64 500000) := (hb8.cell (p := ⟨v6.heap.size, 4, none⟩) (by first | omega | (simp [ext_size]; try omega))).trans (by (simp (maxDischargeDepth := 8) [go_sem, World.cell?_alloc_past, ltk2, ltk3, ltk4, ltk5, ltk6, ltk7, ltk8, ltk9, *]))
  have cc8_17 : v8.cell? ⟨v6.heap.size, 5, none⟩ = some (.int .i64 500000) := (hb8.cell (p := ⟨v6.heap.size, 5, none⟩) (by first | omega | (simp [ext_size]; try omega))).trans (by (simp (maxDischargeDepth := 8) [go_sem, World.cell?_alloc_past, ltk2, ltk3, ltk4, ltk5, ltk6, ltk7, ltk8, ltk9, *]))
  have zl8_0 : v2.heap.size < v8.heap.size := by omega
  have zl8_1 : v4.heap.size < v8.heap.size := by omega
  have zl8_2 : v6.heap.size < v8.heap.size := by omega
  have hB8 : Below w.heap.size w v8 := Below.trans (by (repeat (first | with_reducible exact hB7 | (with_reducible refine bext ?_ _ _) | (with_reducible refine below_drewN ?_ _) | (with_reducible refine Below.drew ?_) | (with_reducible refine bal ?_ _) | (with_reducible refine bset ?_ (by first | omega | (simp <;> omega)) _)))) (hb8.mono (by first | omega | (simp [ext_size]; try omega)))
  have zw8 := hB8.size
  clear hb8
  clear cc7_0 cc7_1 cc7_2 cc7_3 cc7_4 cc7_5 cc7_6 cc7_7 cc7_8 cc7_9 cc7_10 cc7_11 cc7_12 cc7_13 cc7_14 cc7_15 cc7_16 cc7_17 zl7_0 zl7_1 zl7_2 zz7 zw7 hB7
  go_wp2_with fail
  with_reducible refine (N4 _).mono ?_
  rintro e v9 ⟨rfl, hb9⟩
  have zz9 := hb9.size
  try simp [ext_size] at zz9
  have cc9_0 : v9.cell? ⟨v2.heap.size, 0, none⟩ = some (.int .i64 1000000) := (hb9.cell (p := ⟨v2.heap.size, 0, none⟩) (by first | omega | (simp [ext_size]; try omega))).trans (by (simp (maxDischargeDepth := 8) [go_sem, World.cell?_alloc_past, ltk2, ltk3, ltk4, ltk5, ltk6, ltk7, ltk8, ltk9, *]))
  have cc9_1 : v9.cell? ⟨v2.heap.size, 1, none⟩ = some (.int .i64 1000000) := (hb9.cell (p := ⟨v2.heap.size, 1, none⟩) (by first | omega | (simp [ext_size]; try omega))).trans (by (simp (maxDischargeDepth := 8) [go_sem, World.cell?_alloc_past, ltk2, ltk3, ltk4, ltk5, ltk6, ltk7, ltk8, ltk9, *]))
  have cc9_2 : v9.cell? ⟨v2.heap.size, 2, none⟩ = some (.int .i64 0) := (hb9.cell (p := ⟨v2.heap.size, 2, none⟩) (by first | omega | (simp [ext_size]; try omega))).trans (by (simp (maxDischargeDepth := 8) [go_sem, World.cell?_alloc_past, ltk2, ltk3, ltk4, ltk5, ltk6, ltk7, ltk8, ltk9, *]))
  have cc9_3 : v9.cell? ⟨v2.heap.size, 3, none⟩ = some (.int .i64 0) := (hb9.cell (p := ⟨v2.heap.size, 3, none⟩) (by first | omega | (simp [ext_size]; try omega))).trans (by (simp (maxDischargeDepth := 8) [go_sem, World.cell?_alloc_past, ltk2, ltk3, ltk4, ltk5, ltk6, ltk7, ltk8, ltk9, *]))
  have cc9_4 : v9.cell? ⟨v2.heap.size, 4, none⟩ = some (.int .i64 0) := (hb9.cell (p := ⟨v2.heap.size, 4, none⟩) (by first | omega | (simp [ext_size]; try omega))).trans (by (simp (maxDischargeDepth := 8) [go_sem, World.cell?_alloc_past, ltk2, ltk3, ltk4, ltk5, ltk6, ltk7, ltk8, ltk9, *]))
  have cc9_5 : v9.cell? ⟨v2.heap.size, 5, none⟩ = some (.int .i64 0) := (hb9.cell (p := ⟨v2.heap.size, 5, none⟩) (by first | omega | (simp [ext_size]; try omega))).trans (by (simp (maxDischargeDepth := 8) [go_sem, World.cell?_alloc_past, ltk2, ltk3, ltk4, ltk5, ltk6, ltk7, ltk8, ltk9, *]))
  have cc9_6 : v9.cell? ⟨v4.heap.size, 0, none⟩ = some (.int .i64 0) := (hb9.cell (p := ⟨v4.heap.size, 0, none⟩) (by first | omega | (simp [ext_size]; try omega))).trans (by (simp (maxDischargeDepth := 8) [go_sem, World.cell?_alloc_past, ltk2, ltk3, ltk4, ltk5, ltk6, ltk7, ltk8, ltk9, *]))
  have cc9_7 : v9.cell? ⟨v4.heap.size, 1, none⟩ = some (.int .i64 0) := (hb9.cell (p := ⟨v4.heap.size, 1, none⟩) (by first | omega | (simp [ext_size]; try omega))).trans (by (simp (maxDischargeDepth := 8) [go_sem, World.cell?_alloc_past, ltk2, ltk3, ltk4, ltk5, ltk6, ltk7, ltk8, ltk9, *]))
  have cc9_8 : v9.cell? ⟨v4.heap.size, 2, none⟩ = some (.int .i64 (-1000000)) := (hb9.cell (p := ⟨v4.heap.size, 2, none⟩) (by first | omega | (simp [ext_size]; try omega))).trans (by (simp (maxDischargeDepth := 8) [go_sem, World.cell?_alloc_past, ltk2, ltk3, ltk4, ltk5, ltk6, ltk7, ltk8, ltk9, *]))
  have cc9_9 : v9.cell? ⟨v4.heap.size, 3, none⟩ = some (.int .i64 (-1000000)) := (hb9.cell (p := ⟨v4.heap.size, 3, none⟩) (by first | omega | (simp [ext_size]; try omega))).trans (by (simp (maxDischargeDepth := 8) [go_sem, World.cell?_alloc_past, ltk2, ltk3, ltk4, ltk5, ltk6, ltk7, ltk8, ltk9, *]))
  have cc9_10 : v9.cell? ⟨v4.heap.size, 4, none⟩ = some (.int .i64 0) := (hb9.cell (p := ⟨v4.heap.size, 4, none⟩) (by first | omega | (simp [ext_size]; try omega))).trans (by (simp (maxDischargeDepth := 8) [go_sem, World.cell?_alloc_past, ltk2, ltk3, ltk4, ltk5, ltk6, ltk7, ltk8, ltk9, *]))
  have cc9_11 : v9.cell? ⟨v4.heap.size, 5, none⟩ = some (.int .i64 0) := (hb9.cell (p := ⟨v4.heap.size, 5, none⟩) (by first | omega | (simp [ext_size]; try omega))).trans (by (simp (maxDischargeDepth := 8) [go_sem, World.cell?_alloc_past, ltk2, ltk3, ltk4, ltk5, ltk6, ltk7, ltk8, ltk9, *]))
  have cc9_12 : v9.cell? ⟨v6.heap.size, 0, none⟩ = some (.int .i64 866025) := (hb9.cell (p := ⟨v6.heap.size, 0, none⟩) (by first | omega | (simp [ext_size]; try omega))).trans (by (simp (maxDischargeDepth := 8) [go_sem, World.cell?_alloc_past, ltk2, ltk3, ltk4, ltk5, ltk6, ltk7, ltk8, ltk9, *]))
  have cc9_13 : v9.cell? ⟨v6.heap.size, 1, none⟩ = some (.int .i64 866026) := (hb9.cell (p := ⟨v6.heap.size, 1, none⟩) (by first | omega | (simp [ext_size]; try omega))).trans (by (simp (maxDischargeDepth := 8) [go_sem, World.cell?_alloc_past, ltk2, ltk3, ltk4, ltk5, ltk6, ltk7, ltk8, ltk9, *]))
  have cc9_14 : v9.cell? ⟨v6.heap.size, 2, none⟩ = some (.int .i64 0) := (hb9.cell (p := ⟨v6.heap.size, 2, none⟩) (by first | omega | (simp [ext_size]; try omega))).trans (by (simp (maxDischargeDepth := 8) [go_sem, World.cell?_alloc_past, ltk2, ltk3, ltk4, ltk5, ltk6, ltk7, ltk8, ltk9, *]))
  have cc9_15 : v9.cell? ⟨v6.heap.size, 3, none⟩ = some (.int .i64 0) := (hb9.cell (p := ⟨v6.heap.size, 3, none⟩) (by first | omega | (simp [ext_size]; try omega))).trans (by (simp (maxDischargeDepth := 8) [go_sem, World.cell?_alloc_past, ltk2, ltk3, ltk4, ltk5, ltk6, ltk7, ltk8, ltk9, *]))
  have cc9_16 : v9.cell? ⟨v6.heap.size, 4, none⟩ = some (.int .i64 500000) := (hb9.cell (p := ⟨v6.heap.size, 4, none⟩) (by first | omega | (simp [ext_size]; try omega))).trans (by (simp (maxDischargeDepth := 8) [go_sem, World.cell?_alloc_past, ltk2, ltk3, ltk4, ltk5, ltk6, ltk7, ltk8, ltk9, *]))
  have cc9_17 : v9.cell? ⟨v6.heap.size, 5, none⟩ = some (.int .i64 500000) := (hb9.cell (p := ⟨v6.heap.size, 5, none⟩) (by first | omega | (simp [ext_size]; try omega))).trans (by (simp (maxDischargeDepth := 8) [go_sem, World.cell?_alloc_past, ltk2, ltk3, ltk4, ltk5, ltk6, ltk7, ltk8, ltk9, *]))
  have cc9_18 : v9.cell? ⟨v8.heap.size, 0, none⟩ = some (.int .i64 0) := (hb9.cell (p := ⟨v8.heap.size, 0, none⟩) (by first | omega | (simp [ext_size]; try omega))).trans (by (simp (maxDischargeDepth := 8) [go_sem, World.cell?_alloc_past, ltk2, ltk3, ltk4, ltk5, ltk6, ltk7, ltk8, ltk9, *]))
  have cc9_19 : v9.cell? ⟨v8.heap.size, 1, none⟩ = some (.int .i64 0) := (hb9.cell (p := ⟨v8.heap.size, 1, none⟩) (by first | omega | (simp [ext_size]; try omega))).trans (by (simp (maxDischargeDepth := 8) [go_sem, World.cell?_alloc_past, ltk2, ltk3, ltk4, ltk5, ltk6, ltk7, ltk8, ltk9, *]))
  have cc9_20 : v9.cell? ⟨v8.heap.size, 2, none⟩ = some (.int .i64 0) := (hb9.cell (p := ⟨v8.heap.size, 2, none⟩) (by first | omega | (simp [ext_size]; try omega))).trans (by (simp (maxDischargeDepth := 8) [go_sem, World.cell?_alloc_past, ltk2, ltk3, ltk4, ltk5, ltk6, ltk7, ltk8, ltk9, *]))
  have cc9_21 : v9.cell? ⟨v8.heap.size, 3, none⟩ = some (.int .i64 0) := (hb9.cell (p := ⟨v8.heap.size, 3, none⟩) (by first | omega | (simp [ext_size]; try omega))).trans (by (simp (maxDischargeDepth := 8) [go_sem, World.cell?_alloc_past, ltk2, ltk3, ltk4, ltk5, ltk6, ltk7, ltk8, ltk9, *]))
  have cc9_22 : v9.cell? ⟨v8.heap.size, 4, none⟩ = some (.int .i64 1000000) := (hb9.cell (p := ⟨v8.heap.size, 4, none⟩) (by first | omega | (simp [ext_size]; try omega))).trans (by (simp (maxDischargeDepth := 8) [go_sem, World.cell?_alloc_past, ltk2, ltk3, ltk4, ltk5, ltk6, ltk7, ltk8, ltk9, *]))
  have cc9_23 : v9.cell? ⟨v8.heap.size, 5, none⟩ = some (.int .i64 1000000) := (hb9.cell (p := ⟨v8.heap.size, 5, none⟩) (by first | omega | (simp [ext_size]; try omega))).trans (by (simp (maxDischargeDepth := 8) [go_sem, World.cell?_alloc_past, ltk2, ltk3, ltk4, ltk5, ltk6, ltk7, ltk8, ltk9, *]))
  have zl9_0 : v2.heap.size < v9.heap.size := by omega
  have zl9_1 : v4.heap.size < v9.heap.size := by omega
  have zl9_2 : v6.heap.size < v9.heap.size := by omega
  have zl9_3 : v8.heap.size < v9.heap.size := by omega
  have hB9 : Below w.heap.size w v9 := Below.trans (by (repeat (first | with_reducible exact hB8 | (with_reducible refine bext ?_ _ _) | (with_reducible refine below_drewN ?_ _) | (with_reducible refine Below.drew ?_) | (with_reducible refine bal ?_ _) | (with_reducible refine bset ?_ (by first | omega | (simp <;> omega)) _)))) (hb9.mono (by first | omega | (simp [ext_size]; try omega)))
  have zw9 := hB9.size
  clear hb9
  clear cc8_0 cc8_1 cc8_2 cc8_3 cc8_4 cc8_5 cc8_6 cc8_7 cc8_8 cc8_9 cc8_10 cc8_11 cc8_12 cc8_13 cc8_14 cc8_15 cc8_16 cc8_17 zl8_0 zl8_1 zl8_2 zz8 zw8 hB8
  go_wp2_with fail
  with_reducible refine (N2 _).mono ?_
  rintro e v10 ⟨rfl, hb10⟩
  have zz10 := hb10.size
  try simp [ext_size] at zz10
  have cc10_0 : v10.cell? ⟨v2.heap.size, 0, none⟩ = some (.int .i64 1000000) := (hb10.cell (p := ⟨v2.heap.size, 0, none⟩) (by first | omega | (simp [ext_size]; try omega))).trans (by (simp (maxDischargeDepth := 8) [go_sem, World.cell?_alloc_past, ltk2, ltk3, ltk4, ltk5, ltk6, ltk7, ltk8, ltk9, *]))
  have cc10_1 : v10.cell? ⟨v2.heap.size, 1, none⟩ = some (.int .i64 1000000) := (hb10.cell (p := ⟨v2.heap.size, 1, none⟩) (by first | omega | (simp [ext_size]; try omega))).trans (by (simp (maxDischargeDepth := 8) [go_sem, World.cell?_alloc_past, ltk2, ltk3, ltk4, ltk5, ltk6, ltk7, ltk8, ltk9, *]))
  have cc10_2 : v10.cell? ⟨v2.heap.size, 2, none⟩ = some (.int .i64 0) := (hb10.cell (p := ⟨v2.heap.size, 2, none⟩) (by first | omega | (simp [ext_size]; try omega))).trans (by (simp (maxDischargeDepth := 8) [go_sem, World.cell?_alloc_past, ltk2, ltk3, ltk4, ltk5, ltk6, ltk7, ltk8, ltk9, *]))
  have cc10_3 : v10.cell? ⟨v2.heap.size, 3, none⟩ = some (.int .i64 0) := (hb10.cell (p := ⟨v2.heap.size, 3, none⟩) (by first | omega | (simp [ext_size]; try omega))).trans (by (simp (maxDischargeDepth := 8) [go_sem, World.cell?_alloc_past, ltk2, ltk3, ltk4, ltk5, ltk6, ltk7, ltk8, ltk9, *]))
  have cc10_4 : v10.cell? ⟨v2.heap.size, 4, none⟩ = some (.int .i64 0) := (hb10.cell (p := ⟨v2.heap.size, 4, none⟩) (by first | omega | (simp [ext_size]; try omega))).trans (by (simp (maxDischargeDepth := 8) [go_sem, World.cell?_alloc_past, ltk2, ltk3, ltk4, ltk5, ltk6, ltk7, ltk8, ltk9, *]))
  have cc10_5 : v10.cell? ⟨v2.heap.size, 5, none⟩ = some (.int .i64 0) := (hb10.cell (p := ⟨v2.heap.size, 5, none⟩) (by first | omega | (simp [ext_size]; try omega))).trans (by (simp (maxDischargeDepth := 8) [go_sem, World.cell?_alloc_past, ltk2, ltk3, ltk4, ltk5, ltk6, ltk7, ltk8, ltk9, *]))
  have cc10_6 : v10.cell? ⟨v4.heap.size, 0, none⟩ = some (.int .i64 0) := (hb10.cell (p := ⟨v4.heap.size, 0, none⟩) (by first | omega | (simp [ext_size]; try omega))).trans (by (simp (maxDischargeDepth := 8) [go_sem, World.cell?_alloc_past, ltk2, ltk3, ltk4, ltk5, ltk6, ltk7, ltk8, ltk9, *]))
  have cc10_7 : v10.cell? ⟨v4.heap.size, 1, none⟩ = some (.int .i64 0) := (hb10.cell (p := ⟨v4.heap.size, 1, none⟩) (by first | omega | (simp [ext_size]; try omega))).trans (by (simp (maxDischargeDepth := 8) [go_sem, World.cell?_alloc_past, ltk2, ltk3, ltk4, ltk5, ltk6, ltk7, ltk8, ltk9, *]))
  have cc10_8 : v10.cell? ⟨v4.heap.size, 2, none⟩ = some (.int .i64 (-1000000)) := (hb10.cell (p := ⟨v4.heap.size, 2, none⟩) (by first | omega | (simp [ext_size]; try omega))).trans (by (simp (maxDischargeDepth := 8) [go_sem, World.cell?_alloc_past, ltk2, ltk3, ltk4, ltk5, ltk6, ltk7, ltk8, ltk9, *]))
  have cc10_9 : v10.cell? ⟨v4.heap.size, 3, none⟩ = some (.int .i64 (-1000000)) := (hb10.cell (p := ⟨v4.heap.size, 3, none⟩) (by first | omega | (simp [ext_size]; try omega))).trans (by (simp (maxDischargeDepth := 8) [go_sem, World.cell?_alloc_past, ltk2, ltk3, ltk4, ltk5, ltk6, ltk7, ltk8, ltk9, *]))
  have cc10_10 : v10.cell? ⟨v4.heap.size, 4, none⟩ = some (.int .i64 0) := (hb10.cell (p := ⟨v4.heap.size, 4, none⟩) (by first | omega | (simp [ext_size]; try omega))).trans (by (simp (maxDischargeDepth := 8) [go_sem, World.cell?_alloc_past, ltk2, ltk3, ltk4, ltk5, ltk6, ltk7, ltk8, ltk9, *]))
  have cc10_11 : v10.cell? ⟨v4.heap.size, 5, none⟩ = some (.int .i64 0) := (hb10.cell (p := ⟨v4.heap.size, 5, none⟩) (by first | omega | (simp [ext_size]; try omega))).trans (by (simp (maxDischargeDepth := 8) [go_sem, World.cell?_alloc_past, ltk2, ltk3, ltk4, ltk5, ltk6, ltk7, ltk8, ltk9, *]))
  have cc10_12 : v10.cell? ⟨v6.heap.size, 0, none⟩ = some (.int .i64 866025) := (hb10.cell (p := ⟨v6.heap.size, 0, none⟩) (by first | omega | (simp [ext_size]; try omega))).trans (by (simp (maxDischargeDepth := 8) [go_sem, World.cell?_alloc_past, ltk2, ltk3, ltk4, ltk5, ltk6, ltk7, ltk8, ltk9, *]))
  have cc10_13 : v10.cell? ⟨v6.heap.size, 1, none⟩ = some (.int .i64 866026) := (hb10.cell (p := ⟨v6.heap.size, 1, none⟩) (by first | omega | (simp [ext_size]; try omega))).trans (by (simp (maxDischargeDepth := 8) [go_sem, World.cell?_alloc_past, ltk2, ltk3, ltk4, ltk5, ltk6, ltk7, ltk8, ltk9, *]))
  have cc10_14 : v10.cell? ⟨v6.heap.size, 2, none⟩ = some (.int .i64 0) := (hb10.cell (p := ⟨v6.heap.size, 2, none⟩) (by first | omega | (simp [ext_size]; try omega))).trans (by (simp (maxDischargeDepth := 8) [go_sem, World.cell?_alloc_past, ltk2, ltk3, ltk4, ltk5, ltk6, ltk7, ltk8, ltk9, *]))
  have cc10_15 : v10.cell? ⟨v6.heap.size, 3, none⟩ = some (.int .i64 0) := (hb10.cell (p := ⟨v6.heap.size, 3, none⟩) (by first | omega | (simp [ext_size]; try omega))).trans (by (simp (maxDischargeDepth := 8) [go_sem, World.cell?_alloc_past, ltk2, ltk3, ltk4, ltk5, ltk6, ltk7, ltk8, ltk9, *]))
  have cc10_16 : v10.cell? ⟨v6.heap.size, 4, none⟩ = some (.int .i64 500000) := (hb10.cell (p := ⟨v6.heap.size, 4, none⟩) (by first | omega | (simp [ext_size]; try omega))).trans (by (simp (maxDischargeDepth := 8) [go_sem, World.cell?_alloc_past, ltk2, ltk3, ltk4, ltk5, ltk6, ltk7, ltk8, ltk9, *]))
  have cc10_17 : v10.cell? ⟨v6.heap.size, 5, none⟩ = some (.int .i64 500000) := (hb10.cell (p := ⟨v6.heap.size, 5, none⟩) (by first | omega | (simp [ext_size]; try omega))).trans (by (simp (maxDischargeDepth := 8) [go_sem, World.cell?_alloc_past, ltk2, ltk3, ltk4, ltk5, ltk6, ltk7, ltk8, ltk9, *]))
  have cc10_18 : v10.cell? ⟨v8.heap.size, 0, none⟩ = some (.int .i64 0) := (hb10.cell (p := ⟨v8.heap.size, 0, none⟩) (by first | omega | (simp [ext_size]; try omega))).trans (by (simp (maxDischargeDepth := 8) [go_sem, World.cell?_alloc_past, ltk2, ltk3, ltk4, ltk5, ltk6, ltk7, ltk8, ltk9, *]))
  have cc10_19 : v10.cell? ⟨v8.heap.size, 1, none⟩ = some (.int .i64 0) := (hb10.cell (p := ⟨v8.heap.size, 1, none⟩) (by first | omega | (simp [ext_size]; try omega))).trans (by (simp (maxDischargeDepth := 8) [go_sem, World.cell?_alloc_past, ltk2, ltk3, ltk4, ltk5, ltk6, ltk7, ltk8, ltk9, *]))
  have cc10_20 : v10.cell? ⟨v8.heap.size, 2, none⟩ = some (.int .i64 0) := (hb10.cell (p := ⟨v8.heap.size, 2, none⟩) (by first | omega | (simp [ext_size]; try omega))).trans (by (simp (maxDischargeDepth := 8) [go_sem, World.cell?_alloc_past, ltk2, ltk3, ltk4, ltk5, ltk6, ltk7, ltk8, ltk9, *]))
  have cc10_21 : v10.cell? ⟨v8.heap.size, 3, none⟩ = some (.int .i64 0) := (hb10.cell (p := ⟨v8.heap.size, 3, none⟩) (by first | omega | (simp [ext_size]; try omega))).trans (by (simp (maxDischargeDepth := 8) [go_sem, World.cell?_alloc_past, ltk2, ltk3, ltk4, ltk5, ltk6, ltk7, ltk8, ltk9, *]))
  have cc10_22 : v10.cell? ⟨v8.heap.size, 4, none⟩ = some (.int .i64 1000000) := (hb10.cell (p := ⟨v8.heap.size, 4, none⟩) (by first | omega | (simp [ext_size]; try omega))).trans (by (simp (maxDischargeDepth := 8) [go_sem, World.cell?_alloc_past, ltk2, ltk3, ltk4, ltk5, ltk6, ltk7, ltk8, ltk9, *]))
  have cc10_23 : v10.cell? ⟨v8.heap.size, 5, none⟩ = some (.int .i64 1000000) := (hb10.cell (p := ⟨v8.heap.size, 5, none⟩) (by first | omega | (simp [ext_size]; try omega))).trans (by (simp (maxDischargeDepth := 8) [go_sem, World.cell?_alloc_past, ltk2, ltk3, ltk4, ltk5, ltk6, ltk7, ltk8, ltk9, *]))
  have zl10_0 : v2.heap.size < v10.heap.size := by omega
  have zl10_1 : v4.heap.size < v10.heap.size := by omega
  have zl10_2 : v6.heap.size < v10.heap.size := by omega
  have zl10_3 : v8.heap.size < v10.heap.size := by omega
  have hB10 : Below w.heap.size w v10 := Below.trans (by (repeat (first | with_reducible exact hB9 | (with_reducible refine bext ?_ _ _) | (with_reducible refine below_drewN ?_ _) | (with_reducible refine Below.drew ?_) | (with_reducible refine bal ?_ _) | (with_reducible refine bset ?_ (by first | omega | (simp <;> omega)) _)))) (hb10.mono (by first | omega | (simp [ext_size]; try omega)))
  have zw10 := hB10.size
  clear hb10
  clear cc9_0 cc9_1 cc9_2 cc9_3 cc9_4 cc9_5 cc9_6 cc9_7 cc9_8 cc9_9 cc9_10 cc9_11 cc9_12 cc9_13 cc9_14 cc9_15 cc9_16 cc9_17 cc9_18 cc9_19 cc9_20 cc9_21 cc9_22 cc9_23 zl9_0 zl9_1 zl9_2 zl9_3 zz9 zw9 hB9
  go_wp2_with fail
  with_reducible refine (B4 _).mono ?_
  rintro e v11 ⟨rfl, hb11⟩
  have zz11 := hb11.size
  try simp [ext_size] at zz11
  have cc11_0 : v11.cell? ⟨v2.heap.size, 0, none⟩ = some (.int .i64 1000000) := (hb11.cell (p := ⟨v2.heap.size, 0, none⟩) (by first | omega | (simp [ext_size]; try omega))).trans (by (simp (maxDischargeDepth := 8) [go_sem, World.cell?_alloc_past, ltk2, ltk3, ltk4, ltk5, ltk6, ltk7, ltk8, ltk9, *]))
  have cc11_1 : v11.cell? ⟨v2.heap.size, 1, none⟩ = some (.int .i64 1000000) := (hb11.cell (p := ⟨v2.heap.size, 1, none⟩) (by first | omega | (simp [ext_size]; try omega))).trans (by (simp (maxDischargeDepth := 8) [go_sem, World.cell?_alloc_past, ltk2, ltk3, ltk4, ltk5, ltk6, ltk7, ltk8, ltk9, *]))
  have cc11_2 : v11.cell? ⟨v2.heap.size, 2, none⟩ = some (.int .i64 0) := (hb11.cell (p := ⟨v2.heap.size, 2, none⟩) (by first | omega | (simp [ext_size]; try omega))).trans (by (simp (maxDischargeDepth := 8) [go_sem, World.cell?_alloc_past, ltk2, ltk3, ltk4, ltk5, ltk6, ltk7, ltk8, ltk9, *]))
  have cc11_3 : v11.cell? ⟨v2.heap.size, 3, none⟩ = some (.int .i64 0) := (hb11.cell (p := ⟨v2.heap.size, 3, none⟩) (by first | omega | (simp [ext_size]; try omega))).trans (by (simp (maxDischargeDepth := 8) [go_sem, World.cell?_alloc_past, ltk2, ltk3, ltk4, ltk5, ltk6, ltk7, ltk8, ltk9, *]))
  have cc11_4 : v11.cell? ⟨v2.heap.size, 4, none⟩ = some (.int .i64 0) := (hb11.cell (p := ⟨v2.heap.size, 4, none⟩) (by first | omega | (simp [ext_size]; try omega))).trans (by (simp (maxDischargeDepth := 8) [go_sem, World.cell?_alloc_past, ltk2, ltk3, ltk4, ltk5, ltk6, ltk7, ltk8, ltk9, *]))
  have cc11_5 : v11.cell? ⟨v2.heap.size, 5, none⟩ = some (.int .i64 0) := (hb11.cell (p := ⟨v2.heap.size, 5, none⟩) (by first | omega | (simp [ext_size]; try omega))).trans (by (simp (maxDischargeDepth := 8) [go_sem, World.cell?_alloc_past, ltk2, ltk3, ltk4, ltk5, ltk6, ltk7, ltk8, ltk9, *]))
  have cc11_6 : v11.cell? ⟨v4.heap.size, 0, none⟩ = some (.int .i64 0) := (hb11.cell (p := ⟨v4.heap.size, 0, none⟩) (by first | omega | (simp [ext_size]; try omega))).trans (by (simp (maxDischargeDepth := 8) [go_sem, World.cell?_alloc_past, ltk2, ltk3, ltk4, ltk5, ltk6, ltk7, ltk8, ltk9, *]))
  have cc11_7 : v11.cell? ⟨v4.heap.size, 1, none⟩ = some (.int .i64 0) := (hb11.cell (p := ⟨v4.heap.size, 1, none⟩) (by first | omega | (simp [ext_size]; try omega))).trans (by (simp (maxDischargeDepth := 8) [go_sem, World.cell?_alloc_past, ltk2, ltk3, ltk4, ltk5, ltk6, ltk7, ltk8, ltk9, *]))
  have cc11_8 : v11.cell? ⟨v4.heap.size, 2, none⟩ = some (.int .i64 (-1000000)) := (hb11.cell (p := ⟨v4.heap.size, 2, none⟩) (by first | omega | (simp [ext_size]; try omega))).trans (by (simp (maxDischargeDepth := 8) [go_sem, World.cell?_alloc_past, ltk2, ltk3, ltk4, ltk5, ltk6, ltk7, ltk8, ltk9, *]))
  have cc11_9 : v11.cell? ⟨v4.heap.size, 3, none⟩ = some (.int .i64 (-1000000)) := (hb11.cell (p := ⟨v4.heap.size, 3, none⟩) (by first | omega | (simp [ext_size]; try omega))).trans (by (simp (maxDischargeDepth := 8) [go_sem, World.cell?_alloc_past, ltk2, ltk3, ltk4, ltk5, ltk6, ltk7, ltk8, ltk9, *]))
  have cc11_10 : v11.cell? ⟨v4.heap.size, 4, none⟩ = some (.int .i64 0) := (hb11.cell (p := ⟨v4.heap.size, 4, none⟩) (by first | omega | (simp [ext_size]; try omega))).trans (by (simp (maxDischargeDepth := 8) [go_sem, World.cell?_alloc_past, ltk2, ltk3, ltk4, ltk5, ltk6, ltk7, ltk8, ltk9, *]))
  have cc11_11 : v11.cell? ⟨v4.heap.size, 5, none⟩ = some (.int .i64 0) := (hb11.cell (p := ⟨v4.heap.size, 5, none⟩) (by first | omega | (simp [ext_size]; try omega))).trans (by (simp (maxDischargeDepth := 8) [go_sem, World.cell?_alloc_past, ltk2, ltk3, ltk4, ltk5, ltk6, ltk7, ltk8, ltk9, *]))
  have cc11_12 : v11.cell? ⟨v6.heap.size, 0, none⟩ = some (.int .i64 866025) := (hb11.cell (p := ⟨v6.heap.size, 0, none⟩) (by first | omega | (simp [ext_size]; try omega))).trans (by (simp (maxDischargeDepth := 8) [go_sem, World.cell?_alloc_past, ltk2, ltk3, ltk4, ltk5, ltk6, ltk7, ltk8, ltk9, *]))
  have cc11_13 : v11.cell? ⟨v6.heap.size, 1, none⟩ = some (.int .i64 866026) := (hb11.cell (p := ⟨v6.heap.size, 1, none⟩) (by first | omega | (simp [ext_size]; try omega))).trans (by (simp (maxDischargeDepth := 8) [go_sem, World.cell?_alloc_past, ltk2, ltk3, ltk4, ltk5, ltk6, ltk7, ltk8, ltk9, *]))
  have cc11_14 : v11.cell? ⟨v6.heap.size, 2, none⟩ = some (.int .i64 0) := (hb11.cell (p := ⟨v6.heap.size, 2, none⟩) (by first | omega | (simp [ext_size]; try omega))).trans (by (simp (maxDischargeDepth := 8) [go_sem, World.cell?_alloc_past, ltk2, ltk3, ltk4, ltk5, ltk6, ltk7, ltk8, ltk9, *]))
  have cc11_15 : v11.cell? ⟨v6.heap.size, 3, none⟩ = some (.int .i64 0) := (hb11.cell (p := ⟨v6.heap.size, 3, none⟩) (by first | omega | (simp [ext_size]; try omega))).trans (by (simp (maxDischargeDepth := 8) [go_sem, World.cell?_alloc_past, ltk2, ltk3, ltk4, ltk5, ltk6, ltk7, ltk8, ltk9, *]))
  have cc11_16 : v11.cell? ⟨v6.heap.size, 4, none⟩ = some (.int .i64 500000) := (hb11.cell (p := ⟨v6.heap.size, 4, none⟩) (by first | omega | (simp [ext_size]; try omega))).trans (by (simp (maxDischargeDepth := 8) [go_sem, World.cell?_alloc_past, ltk2, ltk3, ltk4, ltk5, ltk6, ltk7, ltk8, ltk9, *]))
  have cc11_17 : v11.cell? ⟨v6.heap.size, 5, none⟩ = some (.int .i64 500000) := (hb11.cell (p := ⟨v6.heap.size, 5, none⟩) (by first | omega | (simp [ext_size]; try omega))).trans (by (simp (maxDischargeDepth := 8) [go_sem, World.cell?_alloc_past, ltk2, ltk3, ltk4, ltk5, ltk6, ltk7, ltk8, ltk9, *]))
  have cc11_18 : v11.cell? ⟨v8.heap.size, 0, none⟩ = some (.int .i64 0) := (hb11.cell (p := ⟨v8.heap.size, 0, none⟩) (by first | omega | (simp [ext_size]; try omega))).trans (by (simp (maxDischargeDepth := 8) [go_sem, World.cell?_alloc_past, ltk2, ltk3, ltk4, ltk5, ltk6, ltk7, ltk8, ltk9, *]))
  have cc11_19 : v11.cell? ⟨v8.heap.size, 1, none⟩ = some (.int .i64 0) := (hb11.cell (p := ⟨v8.heap.size, 1, none⟩) (by first | omega | (simp [ext_size]; try omega))).trans (by (simp (maxDischargeDepth := 8) [go_sem, World.cell?_alloc_past, ltk2, ltk3, ltk4, ltk5, ltk6, ltk7, ltk8, ltk9, *]))
  have cc11_20 : v11.cell? ⟨v8.heap.size, 2, none⟩ = some (.int .i64 0) := (hb11.cell (p := ⟨v8.heap.size, 2, none⟩) (by first | omega | (simp [ext_size]; try omega))).trans (by (simp (maxDischargeDepth := 8) [go_sem, World.cell?_alloc_past, ltk2, ltk3, ltk4, ltk5, ltk6, ltk7, ltk8, ltk9, *]))
  have cc11_21 : v11.cell? ⟨v8.heap.size, 3, none⟩ = some (.int .i64 0) := (hb11.cell (p := ⟨v8.heap.size, 3, none⟩) (by first | omega | (simp [ext_size]; try omega))).trans (by (simp (maxDischargeDepth := 8) [go_sem, World.cell?_alloc_past, ltk2, ltk3, ltk4, ltk5, ltk6, ltk7, ltk8, ltk9, *]))
  have cc11_22 : v11.cell? ⟨v8.heap.size, 4, none⟩ = some (.int .i64 1000000) := (hb11.cell (p := ⟨v8.heap.size, 4, none⟩) (by first | omega | (simp [ext_size]; try omega))).trans (by (simp (maxDischargeDepth := 8) [go_sem, World.cell?_alloc_past, ltk2, ltk3, ltk4, ltk5, ltk6, ltk7, ltk8, ltk9, *]))
  have cc11_23 : v11.cell? ⟨v8.heap.size, 5, none⟩ = some (.int .i64 1000000) := (hb11.cell (p := ⟨v8.heap.size, 5, none⟩) (by first | omega | (simp [ext_size]; try omega))).trans (by (simp (maxDischargeDepth := 8) [go_sem, World.cell?_alloc_past, ltk2, ltk3, ltk4, ltk5, ltk6, ltk7, ltk8, ltk9, *]))
  have zl11_0 : v2.heap.size < v11.heap.size := by omega
  have zl11_1 : v4.heap.size < v11.heap.size := by omega
  have zl11_2 : v6.heap.size < v11.heap.size := by omega
  have zl11_3 : v8.heap.size < v11.heap.size := by omega
  have hB11 : Below w.heap.size w v11 := Below.trans (by (repeat (first | with_reducible exact hB10 | (with_reducible refine bext ?_ _ _) | (with_reducible refine below_drewN ?_ _) | (with_reducible refine Below.drew ?_) | (with_reducible refine bal ?_ _) | (with_reducible refine bset ?_ (by first | omega | (simp <;> omega)) _)))) (hb11.mono (by first | omega | (simp [ext_size]; try omega)))
  have zw11 := hB11.size
  clear hb11
  clear cc10_0 cc10_1 cc10_2 cc10_3 cc10_4 cc10_5 cc10_6 cc10_7 cc10_8 cc10_9 cc10_10 cc10_11 cc10_12 cc10_13 cc10_14 cc10_15 cc10_16 cc10_17 cc10_18 cc10_19 cc10_20 cc10_21 cc10_22 cc10_23 zl10_0 zl10_1 zl10_2 zl10_3 zz10 zw10 hB10
  go_wp2_with fail
  with_reducible refine (O1 _).mono ?_
  rintro e v12 ⟨rfl, hb12⟩
  have zz12 := hb12.size
  try simp [ext_size] at zz12
  have cc12_0 : v12.cell? ⟨v2.heap.size, 0, none⟩ = some (.int .i64 1000000) := (hb12.cell (p := ⟨v2.heap.size, 0, none⟩) (by first | omega | (simp [ext_size]; try omega))).trans (by (simp (maxDischargeDepth := 8) [go_sem, World.cell?_alloc_past, ltk2, ltk3, ltk4, ltk5, ltk6, ltk7, ltk8, ltk9, *]))
  have cc12_1 : v12.cell? ⟨v2.heap.size, 1, none⟩ = some (.int .i64 1000000) := (hb12.cell (p := ⟨v2.heap.size, 1, none⟩) (by first | omega | (simp [ext_size]; try omega))).trans (by (simp (maxDischargeDepth := 8) [go_sem, World.cell?_alloc_past, ltk2, ltk3, ltk4, ltk5, ltk6, ltk7, ltk8, ltk9, *]))
  have cc12_2 : v12.cell? ⟨v2.heap.size, 2, none⟩ = some (.int .i64 0) := (hb12.cell (p := ⟨v2.heap.size, 2, none⟩) (by first | omega | (simp [ext_size]; try omega))).trans (by (simp (maxDischargeDepth := 8) [go_sem, World.cell?_alloc_past, ltk2, ltk3, ltk4, ltk5, ltk6, ltk7, ltk8, ltk9, *]))
  have cc12_3 : v12.cell? ⟨v2.heap.size, 3, none⟩ = some (.int .i64 0) := (hb12.cell (p := ⟨v2.heap.size, 3, none⟩) (by first | omega | (simp [ext_size]; try omega))).trans (by (simp (maxDischargeDepth := 8) [go_sem, World.cell?_alloc_past, ltk2, ltk3, ltk4, ltk5, ltk6, ltk7, ltk8, ltk9, *]))
  have cc12_4 : v12.cell? ⟨v2.heap.size, 4, none⟩ = some (.int .i64 0) := (hb12.cell (p := ⟨v2.heap.size, 4, none⟩) (by first | omega | (simp [ext_size]; try omega))).trans (by (simp (maxDischargeDepth := 8) [go_sem, World.cell?_alloc_past, ltk2, ltk3, ltk4, ltk5, ltk6, ltk7, ltk8, ltk9, *]))
  have cc12_5 : v12.cell? ⟨v2.heap.size, 5, none⟩ = some (.int .i64 0) := (hb12.cell (p := ⟨v2.heap.size, 5, none⟩) (by first | omega | (simp [ext_size]; try omega))).trans (by (simp (maxDischargeDepth := 8) [go_sem, World.cell?_alloc_past, ltk2, ltk3, ltk4, ltk5, ltk6, ltk7, ltk8, ltk9, *]))
  have cc12_6 : v12.cell? ⟨v4.heap.size, 0, none⟩ = some (.int .i64 0) := (hb12.cell (p := ⟨v4.heap.size, 0, none⟩) (by first | omega | (simp [ext_size]; try omega))).trans (by (simp (maxDischargeDepth := 8) [go_sem, World.cell?_alloc_past, ltk2, ltk3, ltk4, ltk5, ltk6, ltk7, ltk8, ltk9, *]))
  have cc12_7 : v12.cell? ⟨v4.heap.size, 1, none⟩ = some (.int .i64 0) := (hb12.cell (p := ⟨v4.heap.size, 1, none⟩) (by first | omega | (simp [ext_size]; try omega))).trans (by (simp (maxDischargeDepth := 8) [go_sem, World.cell?_alloc_past, ltk2, ltk3, ltk4, ltk5, ltk6, ltk7, ltk8, ltk9, *]))
  have cc12_8 : v12.cell? ⟨v4.heap.size, 2, none⟩ = some (.int .i64 (-1000000)) := (hb12.cell (p := ⟨v4.heap.size, 2, none⟩) (by first | omega | (simp [ext_size]; try omega))).trans (by (simp (maxDischargeDepth := 8) [go_sem, World.cell?_alloc_past, ltk2, ltk3, ltk4, ltk5, ltk6, ltk7, ltk8, ltk9, *]))
  have cc12_9 : v12.cell? ⟨v4.heap.size, 3, none⟩ = some (.int .i64 (-1000000)) := (hb12.cell (p := ⟨v4.heap.size, 3, none⟩) (by first | omega | (simp [ext_size]; try omega))).trans (by (simp (maxDischargeDepth := 8) [go_sem, World.cell?_alloc_past, ltk2, ltk3, ltk4, ltk5, ltk6, ltk7, ltk8, ltk9, *]))
  have cc12_10 : v12.cell? ⟨v4.heap.size, 4, none⟩ = some (.int .i64 0) := (hb12.cell (p := ⟨v4.heap.size, 4, none⟩) (by first | omega | (simp [ext_size]; try omega))).trans (by (simp (maxDischargeDepth := 8) [go_sem, World.cell?_alloc_past, ltk2, ltk3, ltk4, ltk5, ltk6, ltk7, ltk8, ltk9, *]))
  have cc12_11 : v12.cell? ⟨v4.heap.size, 5, none⟩ = some (.int .i64 0) := (hb12.cell (p := ⟨v4.heap.size, 5, none⟩) (by first | omega | (simp [ext_size]; try omega))).trans (by (simp (maxDischargeDepth := 8) [go_sem, World.cell?_alloc_past, ltk2, ltk3, ltk4, ltk5, ltk6, ltk7, ltk8, ltk9, *]))
  have cc12_12 : v12.cell? ⟨v6.heap.size, 0, none⟩ = some (.int .i64 866025) := (hb12.cell (p := ⟨v6.heap.size, 0, none⟩) (by first | omega | (simp [ext_size]; try omega))).trans (by (simp (maxDischargeDepth := 8) [go_sem, World.cell?_alloc_past, ltk2, ltk3, ltk4, ltk5, ltk6, ltk7, ltk8, ltk9, *]))
  have cc12_13 : v12.cell? ⟨v6.heap.size, 1, none⟩ = some (.int .i64 866026) := (hb12.cell (p := ⟨v6.heap.size, 1, none⟩) (by first | omega | (simp [ext_size]; try omega))).trans (by (simp (maxDischargeDepth := 8) [go_sem, World.cell?_alloc_past, ltk2, ltk3, ltk4, ltk5, ltk6, ltk7, ltk8, ltk9, *]))
  have cc12_14 : v12.cell? ⟨v6.heap.size, 2, none⟩ = some (.int .i64 0) := (hb12.cell (p := ⟨v6.heap.size, 2, none⟩) (by first | omega | (simp [ext_size]; try omega))).trans (by (simp (maxDischargeDepth := 8) [go_sem, World.cell?_alloc_past, ltk2, ltk3, ltk4, ltk5, ltk6, ltk7, ltk8, ltk9, *]))
  have cc12_15 : v12.cell? ⟨v6.heap.size, 3, none⟩ = some (.int .i64 0) := (hb12.cell (p := ⟨v6.heap.size, 3, none⟩) (by first | omega | (simp [ext_size]; try omega))).trans (by (simp (maxDischargeDepth := 8) [go_sem, World.cell?_alloc_past, ltk2, ltk3, ltk4, ltk5, ltk6, ltk7, ltk8, ltk9, *]))
  have cc12_16 : v12.cell? ⟨v6.heap.size, 4, none⟩ = some (.int .i64 500000) := (hb12.cell (p := ⟨v6.heap.size, 4, none⟩) (by first | omega | (simp [ext_size]; try omega))).trans (by (simp (maxDischargeDepth := 8) [go_sem, World.cell?_alloc_past, ltk2, ltk3, ltk4, ltk5, ltk6, ltk7, ltk8, ltk9, *]))
  have cc12_17 : v12.cell? ⟨v6.heap.size, 5, none⟩ = some (.int .i64 500000) := (hb12.cell (p := ⟨v6.heap.size, 5, none⟩) (by first | omega | (simp [ext_size]; try omega))).trans (by (simp (maxDischargeDepth := 8) [go_sem, World.cell?_alloc_past, ltk2, ltk3, ltk4, ltk5, ltk6, ltk7, ltk8, ltk9, *]))
  have cc12_18 : v12.cell? ⟨v8.heap.size, 0, none⟩ = some (.int .i64 0) := (hb12.cell (p := ⟨v8.heap.size, 0, none⟩) (by first | omega | (simp [ext_size]; try omega))).trans (by (simp (maxDischargeDepth := 8) [go_sem, World.cell?_alloc_past, ltk2, ltk3, ltk4, ltk5, ltk6, ltk7, ltk8, ltk9, *]))
  have cc12_19 : v12.cell? ⟨v8.heap.size, 1, none⟩ = some (.int .i64 0) := (hb12.cell (p := ⟨v8.heap.size, 1, none⟩) (by first | omega | (simp [ext_size]; try omega))).trans (by (simp (maxDischargeDepth := 8) [go_sem, World.cell?_alloc_past, ltk2, ltk3, ltk4, ltk5, ltk6, ltk7, ltk8, ltk9, *]))
  have cc12_20 : v12.cell? ⟨v8.heap.size, 2, none⟩ = some (.int .i64 0) := (hb12.cell (p := ⟨v8.heap.size, 2, none⟩) (by first | omega | (simp [ext_size]; try omega))).trans (by (simp (maxDischargeDepth := 8) [go_sem, World.cell?_alloc_past, ltk2, ltk3, ltk4, ltk5, ltk6, ltk7, ltk8, ltk9, *]))
  have cc12_21 : v12.cell? ⟨v8.heap.size, 3, none⟩ = some (.int .i64 0) := (hb12.cell (p := ⟨v8.heap.size, 3, none⟩) (by first | omega | (simp [ext_size]; try omega))).trans (by (simp (maxDischargeDepth := 8) [go_sem, World.cell?_alloc_past, ltk2, ltk3, ltk4, ltk5, ltk6, ltk7, ltk8, ltk9, *]))
  have cc12_22 : v12.cell? ⟨v8.heap.size, 4, none⟩ = some (.int .i64 1000000) := (hb12.cell (p := ⟨v8.heap.size, 4, none⟩) (by first | omega | (simp [ext_size]; try omega))).trans (by (simp (maxDischargeDepth := 8) [go_sem, World.cell?_alloc_past, ltk2, ltk3, ltk4, ltk5, ltk6, ltk7, ltk8, ltk9, *]))
  have cc12_23 : v12.cell? ⟨v8.heap.size, 5, none⟩ = some (.int .i64 1000000) := (hb12.cell (p := ⟨v8.heap.size, 5, none⟩) (by first | omega | (simp [ext_size]; try omega))).trans (by (simp (maxDischargeDepth := 8) [go_sem, World.cell?_alloc_past, ltk2, ltk3, ltk4, ltk5, ltk6, ltk7, ltk8, ltk9, *]))
  have cc12_24 : v12.cell? ⟨v11.heap.size, 0, none⟩ = some (.int .i64 500000) := (hb12.cell (p := ⟨v11.heap.size, 0, none⟩) (by first | omega | (simp [ext_size]; try omega))).trans (by (simp (maxDischargeDepth := 8) [go_sem, World.cell?_alloc_past, ltk2, ltk3, ltk4, ltk5, ltk6, ltk7, ltk8, ltk9, *]))
  have cc12_25 : v12.cell? ⟨v11.heap.size, 1, none⟩ = some (.int .i64 500000) := (hb12.cell (p := ⟨v11.heap.size, 1, none⟩) (by first | omega | (simp [ext_size]; try omega))).trans (by (simp (maxDischargeDepth := 8) [go_sem, World.cell?_alloc_past, ltk2, ltk3, ltk4, ltk5, ltk6, ltk7, ltk8, ltk9, *]))
  have zl12_0 : v2.heap.size < v12.heap.size := by omega
  have zl12_1 : v4.heap.size < v12.heap.size := by omega
  have zl12_2 : v6.heap.size < v12.heap.size := by omega
  have zl12_3 : v8.heap.size < v12.heap.size := by omega
  have zl12_4 : v11.heap.size < v12.heap.size := by omega
  have hB12 : Below w.heap.size w v12 := Below.trans (by (repeat (first | with_reducible exact hB11 | (with_reducible refine bext ?_ _ _) | (with_reducible refine below_drewN ?_ _) | (with_reducible refine Below.drew ?_) | (with_reducible refine bal ?_ _) | (with_reducible refine bset ?_ (by first | omega | (simp <;> omega)) _)))) (hb12.mono (by first | omega | (simp [ext_size]; try omega)))
  have zw12 := hB12.size
  clear hb12
  clear cc11_0 cc11_1 cc11_2 cc11_3 cc11_4 cc11_5 cc11_6 cc11_7 cc11_8 cc11_9 cc11_10 cc11_11 cc11_12 cc11_13 cc11_14 cc11_15 cc11_16 cc11_17 cc11_18 cc11_19 cc11_20 cc11_21 cc11_22 cc11_23 zl11_0 zl11_1 zl11_2 zl11_3 zz11 zw11 hB11
  go_wp2_with fail
  with_reducible refine (O2 _).mono ?_
  rintro e v13 ⟨rfl, hb13⟩
  have zz13 := hb13.size
  try simp [ext_size] at zz13
  have cc13_0 : v13.cell? ⟨v2.heap.size, 0, none⟩ = some (.int .i64 1000000) := (hb13.cell (p := ⟨v2.heap.size, 0, none⟩) (by first | omega | (simp [ext_size]; try omega))).trans (by (simp (maxDischargeDepth := 8) [go_sem, World.cell?_alloc_past, ltk2, ltk3, ltk4, ltk5, ltk6, ltk7, ltk8, ltk9, *]))
  have cc13_1 : v13.cell? ⟨v2.heap.size, 1, none⟩ = some (.int .i64 1000000) := (hb13.cell (p := ⟨v2.heap.size, 1, none⟩) (by first | omega | (simp [ext_size]; try omega))).trans (by (simp (maxDischargeDepth := 8) [go_sem, World.cell?_alloc_past, ltk2, ltk3, ltk4, ltk5, ltk6, ltk7, ltk8, ltk9, *]))
  have cc13_2 : v13.cell? ⟨v2.heap.size, 2, none⟩ = some (.int .i64 0) := (hb13.cell (p := ⟨v2.heap.size, 2, none⟩) (by first | omega | (simp [ext_size]; try omega))).trans (by (simp (maxDischargeDepth := 8) [go_sem, World.cell?_alloc_past, ltk2, ltk3, ltk4, ltk5, ltk6, ltk7, ltk8, ltk9, *]))
  have cc13_3 : v13.cell? ⟨v2.heap.size, 3, none⟩ = some (.int .i64 0) := (hb13.cell (p := ⟨v2.heap.size, 3, none⟩) (by first | omega | (simp [ext_size]; try omega))).trans (by (simp (maxDischargeDepth := 8) [go_sem, World.cell?_alloc_past, ltk2, ltk3, ltk4, ltk5, ltk6, ltk7, ltk8, ltk9, *]))
  have cc13_4 : v13.cell? ⟨v2.heap.size, 4, none⟩ = some (.int .i64 0) := (hb13.cell (p := ⟨v2.heap.size, 4, none⟩) (by first | omega | (simp [ext_size]; try omega))).trans (by (simp (maxDischargeDepth := 8) [go_sem, World.cell?_alloc_past, ltk2, ltk3, ltk4, ltk5, ltk6, ltk7, ltk8, ltk9, *]))
  have cc13_5 : v13.cell? ⟨v2.heap.size, 5, none⟩ = some (.int .i64 0) := (hb13.cell (p := ⟨v2.heap.size, 5, none⟩) (by first | omega | (simp [ext_size]; try omega))).trans (by (simp (maxDischargeDepth := 8) [go_sem, World.cell?_alloc_past, ltk2, ltk3, ltk4, ltk5, ltk6, ltk7, ltk8, ltk9, *]))
  have cc13_6 : v13.cell? ⟨v4.heap.size, 0, none⟩ = some (.int .i64 0) := (hb13.cell (p := ⟨v4.heap.size, 0, none⟩) (by first | omega | (simp [ext_size]; try omega))).trans (by (simp (maxDischargeDepth := 8) [go_sem, World.cell?_alloc_past, ltk2, ltk3, ltk4, ltk5, ltk6, ltk7, ltk8, ltk9, *]))
  have cc13_7 : v13.cell? ⟨v4.heap.size, 1, none⟩ = some (.int .i64 0) := (hb13.cell (p := ⟨v4.heap.size, 1, none⟩) (by first | omega | (simp [ext_size]; try omega))).trans (by (simp (maxDischargeDepth := 8) [go_sem, World.cell?_alloc_past, ltk2, ltk3, ltk4, ltk5, ltk6, ltk7, ltk8, ltk9, *]))
  have cc13_8 : v13.cell? ⟨v4.heap.size, 2, none⟩ = some (.int .i64 (-1000000)) := (hb13.cell (p := ⟨v4.heap.size, 2, none⟩) (by first | omega | (simp [ext_size]; try omega))).trans (by (simp (maxDischargeDepth := 8) [go_sem, World.cell?_alloc_past, ltk2, ltk3, ltk4, ltk5, ltk6, ltk7, ltk8, ltk9, *]))
  have cc13_9 : v13.cell? ⟨v4.heap.size, 3, none⟩ = some (.int .i64 (-1000000)) := (hb13.cell (p := ⟨v4.heap.size, 3, none⟩) (by first | omega | (simp [ext_size]; try omega))).trans (by (simp (maxDischargeDepth := 8) [go_sem, World.cell?_alloc_past, ltk2, ltk3, ltk4, ltk5, ltk6, ltk7, ltk8, ltk9, *]))
  have cc13_10 : v13.cell? ⟨v4.heap.size, 4, none⟩ = some (.int .i64 0) := (hb13.cell (p := ⟨v4.heap.size, 4, none⟩) (by first | omega | (simp [ext_size]; try omega))).trans (by (simp (maxDischargeDepth := 8) [go_sem, World.cell?_alloc_past, ltk2, ltk3, ltk4, ltk5, ltk6, ltk7, ltk8, ltk9, *]))
  have cc13_11 : v13.cell? ⟨v4.heap.size, 5, none⟩ = some (.int .i64 0) := (hb13.cell (p := ⟨v4.heap.size, 5, none⟩) (by first | omega | (simp [ext_size]; try omega))).trans (by (simp (maxDischargeDepth := 8) [go_sem, World.cell?_alloc_past, ltk2, ltk3, ltk4, ltk5, ltk6, ltk7, ltk8, ltk9, *]))
  have cc13_12 : v13.cell? ⟨v6.heap.size, 0, none⟩ = some (.int .i64 866025) := (hb13.cell (p := ⟨v6.heap.size, 0, none⟩) (by first | omega | (simp [ext_size]; try omega))).trans (by (simp (maxDischargeDepth := 8) [go_sem, World.cell?_alloc_past, ltk2, ltk3, ltk4, ltk5, ltk6, ltk7, ltk8, ltk9, *]))
  have cc13_13 : v13.cell? ⟨v6.heap.size, 1, none⟩ = some (.int .i64 866026) := (hb13.cell (p := ⟨v6.heap.size, 1, none⟩) (by first | omega | (simp [ext_size]; try omega))).trans (by (simp (maxDischargeDepth := 8) [go_sem, World.cell?_alloc_past, ltk2, ltk3, ltk4, ltk5, ltk6, ltk7, ltk8, ltk9, *]))
  have cc13_14 : v13.cell? ⟨v6.heap.size, 2, none⟩ = some (.int .i64 0) := (hb13.cell (p := ⟨v6.heap.size, 2, none⟩) (by first | omega | (simp [ext_size]; try omega))).trans (by (simp (maxDischargeDepth := 8) [go_sem, World.cell?_alloc_past, ltk2, ltk3, ltk4, ltk5, ltk6, ltk7, ltk8, ltk9, *]))
  have cc13_15 : v13.cell? ⟨v6.heap.size, 3, none⟩ = some (.int .i64 0) := (hb13.cell (p := ⟨v6.heap.size, 3, none⟩) (by first | omega | (simp [ext_size]; try omega))).trans (by (simp (maxDischargeDepth := 8) [go_sem, World.cell?_alloc_past, ltk2, ltk3, ltk4, ltk5, ltk6, ltk7, ltk8, ltk9, *]))
  have cc13_16 : v13.cell? ⟨v6.heap.size, 4, none⟩ = some (.int .i64 500000) := (hb13.cell (p := ⟨v6.heap.size, 4, none⟩) (by first | omega | (simp [ext_size]; try omega))).trans (by (simp (maxDischargeDepth := 8) [go_sem, World.cell?_alloc_past, ltk2, ltk3, ltk4, ltk5, ltk6, ltk7, ltk8, ltk9, *]))
  have cc13_17 : v13.cell? ⟨v6.heap.size, 5, none⟩ = some (.int .i64 500000) := (hb13.cell (p := ⟨v6.heap.size, 5, none⟩) (by first | omega | (simp [ext_size]; try omega))).trans (by (simp (maxDischargeDepth := 8) [go_sem, World.cell?_alloc_past, ltk2, ltk3, ltk4, ltk5, ltk6, ltk7, ltk8, ltk9, *]))
  have cc13_18 : v13.cell? ⟨v8.heap.size, 0, none⟩ = some (.int .i64 0) := (hb13.cell (p := ⟨v8.heap.size, 0, none⟩) (by first | omega | (simp [ext_size]; try omega))).trans (by (simp (maxDischargeDepth := 8) [go_sem, World.cell?_alloc_past, ltk2, ltk3, ltk4, ltk5, ltk6, ltk7, ltk8, ltk9, *]))
  have cc13_19 : v13.cell? ⟨v8.heap.size, 1, none⟩ = some (.int .i64 0) := (hb13.cell (p := ⟨v8.heap.size, 1, none⟩) (by first | omega | (simp [ext_size]; try omega))).trans (by (simp (maxDischargeDepth := 8) [go_sem, World.cell?_alloc_past, ltk2, ltk3, ltk4, ltk5, ltk6, ltk7, ltk8, ltk9, *]))
  have cc13_20 : v13.cell? ⟨v8.heap.size, 2, none⟩ = some (.int .i64 0) := (hb13.cell (p := ⟨v8.heap.size, 2, none⟩) (by first | omega | (simp [ext_size]; try omega))).trans (by (simp (maxDischargeDepth := 8) [go_sem, World.cell?_alloc_past, ltk2, ltk3, ltk4, ltk5, ltk6, ltk7, ltk8, ltk9, *]))
  have cc13_21 : v13.cell? ⟨v8.heap.size, 3, none⟩ = some (.int .i64 0) := (hb13.cell (p := ⟨v8.heap.size, 3, none⟩) (by first | omega | (simp [ext_size]; try omega))).trans (by (simp (maxDischargeDepth := 8) [go_sem, World.cell?_alloc_past, ltk2, ltk3, ltk4, ltk5, ltk6, ltk7, ltk8, ltk9, *]))
  have cc13_22 : v13.cell? ⟨v8.heap.size, 4, none⟩ = some (.int .i64 1000000) := (hb13.cell (p := ⟨v8.heap.size, 4, none⟩) (by first | omega | (simp [ext_size]; try omega))).trans (by (simp (maxDischargeDepth := 8) [go_sem, World.cell?_alloc_past, ltk2, ltk3, ltk4, ltk5, ltk6, ltk7, ltk8, ltk9, *]))
  have cc13_23 : v13.cell? ⟨v8.heap.size, 5, none⟩ = some (.int .i64 1000000) := (hb13.cell (p := ⟨v8.heap.size, 5, none⟩) (by first | omega | (simp [ext_size]; try omega))).trans (by (simp (maxDischargeDepth := 8) [go_sem, World.cell?_alloc_past, ltk2, ltk3, ltk4, ltk5, ltk6, ltk7, ltk8, ltk9, *]))
  have cc13_24 : v13.cell? ⟨v11.heap.size, 0, none⟩ = some (.int .i64 500000) := (hb13.cell (p := ⟨v11.heap.size, 0, none⟩) (by first | omega | (simp [ext_size]; try omega))).trans (by (simp (maxDischargeDepth := 8) [go_sem, World.cell?_alloc_past, ltk2, ltk3, ltk4, ltk5, ltk6, ltk7, ltk8, ltk9, *]))
  have cc13_25 : v13.cell? ⟨v11.heap.size, 1, none⟩ = some (.int .i64 500000) := (hb13.cell (p := ⟨v11.heap.size, 1, none⟩) (by first | omega | (simp [ext_size]; try omega))).trans (by (simp (maxDischargeDepth := 8) [go_sem, World.cell?_alloc_past, ltk2, ltk3, ltk4, ltk5, ltk6, ltk7, ltk8, ltk9, *]))
  have zl13_0 : v2.heap.size < v13.heap.size := by omega
  have zl13_1 : v4.heap.size < v13.heap.size := by omega
  have zl13_2 : v6.heap.size < v13.heap.size := by omega
  have zl13_3 : v8.heap.size < v13.heap.size := by omega
  have zl13_4 : v11.heap.size < v13.heap.size := by omega
  have hB13 : Below w.heap.size w v13 := Below.trans (by (repeat (first | with_reducible exact hB12 | (with_reducible refine bext ?_ _ _) | (with_reducible refine below_drewN ?_ _) | (with_reducible refine Below.drew ?_) | (with_reducible refine bal ?_ _) | (with_reducible refine bset ?_ (by first | omega | (simp <;> omega)) _)))) (hb13.mono (by first | omega | (simp [ext_size]; try omega)))
  have zw13 := hB13.size
  clear hb13
  clear cc12_0 cc12_1 cc12_2 cc12_3 cc12_4 cc12_5 cc12_6 cc12_7 cc12_8 cc12_9 cc12_10 cc12_11 cc12_12 cc12_13 cc12_14 cc12_15 cc12_16 cc12_17 cc12_18 cc12_19 cc12_20 cc12_21 cc12_22 cc12_23 cc12_24 cc12_25 zl12_0 zl12_1 zl12_2 zl12_3 zl12_4 zz12 zw12 hB12
  go_upto_region 7 with fail
  refine opq (fun wx => wx.cell? ⟨v2.heap.size, 0, none⟩ = some (.int .i64 1000000) ∧ wx.cell? ⟨v2.heap.size, 1, none⟩ = some (.int .i64 1000000) ∧ wx.cell? ⟨v2.heap.size, 2, none⟩ = some (.int .i64 0) ∧ wx.cell? ⟨v2.heap.size, 3, none⟩ = some (.int .i64 0) ∧ wx.cell? ⟨v2.heap.size, 4, none⟩ = some (.int .i64 0) ∧ wx.cell? ⟨v2.heap.size, 5, none⟩ = some (.int .i64 0) ∧ wx.cell? ⟨v4.heap.size, 0, none⟩ = some (.int .i64 0) ∧ wx.cell? ⟨v4.heap.size, 1, none⟩ = some (.int .i64 0) ∧ wx.cell? ⟨v4.heap.size, 2, none⟩ = some (.int .i64 (-1000000)) ∧ wx.cell? ⟨v4.heap.size, 3, none⟩ = some (.int .i64 (-1000000)) ∧ wx.cell? ⟨v4.heap.size, 4, none⟩ = some (.int .i64 0) ∧ wx.cell? ⟨v4.heap.size, 5, none⟩ = some (.int .i64 0) ∧ wx.cell? ⟨v6.heap.size, 0, none⟩ = some (.int .i64 866025) ∧ wx.cell? ⟨v6.heap.size, 1, none⟩ = some (.int .i64 866026) ∧ wx.cell? ⟨v6.heap.size, 2, none⟩ = some (.int .i64 0) ∧ wx.cell? ⟨v6.heap.size, 3, none⟩ = some (.int .i64 0) ∧ wx.cell? ⟨v6.heap.size, 4, none⟩ = some (.int .i64 500000) ∧ wx.cell? ⟨v6.heap.size, 5, none⟩ = some (.int .i64 500000) ∧ wx.cell? ⟨v8.heap.size, 0, none⟩ = some (.int .i64 0) ∧ wx.cell? ⟨v8.heap.size, 1, none⟩ = some (.int .i64 0) ∧ wx.cell? ⟨v8.heap.size, 2, none⟩ = some (.int .i64 0) ∧ wx.cell? ⟨v8.heap.size, 3, none⟩ = some (.int .i64 0) ∧ wx.cell? ⟨v8.heap.size, 4, none⟩ = some (.int .i64 1000000) ∧ wx.cell? ⟨v8.heap.size, 5, none⟩ = some (.int .i64 1000000) ∧ wx.cell? ⟨v11.heap.size, 0, none⟩ = some (.int .i64 500000) ∧ wx.cell? ⟨v11.heap.size, 1, none⟩ = some (.int .i64 500000) ∧ wx.cell? ⟨v13.heap.size, 0, none⟩ = some (.int .i64 1000000) ∧ wx.cell? ⟨v13.heap.size, 1, none⟩ = some (.int .i64 1000000) ∧ wx.cell? ⟨v13.heap.size + 1, 0, none⟩ = some (.int .i64 0) ∧ wx.cell? ⟨v13.heap.size + 1, 1, none⟩ = some (.int .i64 0) ∧ v2.heap.size < wx.heap.size ∧ v4.heap.size < wx.heap.size ∧ v6.heap.size < wx.heap.size ∧ v8.heap.size < wx.heap.size ∧ v11.heap.size < wx.heap.size ∧ v13.heap.size < wx.heap.size ∧ v13.heap.size + 1 < wx.heap.size ∧ Below w.heap.size w wx) ?_ ?_
  · exact ⟨by (simp (maxDischargeDepth := 8) [go_sem, World.cell?_alloc_past, ltk2, ltk3, ltk4, ltk5, ltk6, ltk7, ltk8, ltk9, *]), by (simp (maxDischargeDepth := 8) [go_sem, World.cell?_alloc_past, ltk2, ltk3, ltk4, ltk5, ltk6, ltk7, ltk8, ltk9, *]), by (simp (maxDischargeDepth := 8) [go_sem, World.cell?_alloc_past, ltk2, ltk3, ltk4, ltk5, ltk6, ltk7, ltk8, ltk9, *]), by (simp (maxDischargeDepth := 8) [go_sem, World.cell?_alloc_past, ltk2, ltk3, ltk4, ltk5, ltk6, ltk7, ltk8, ltk9, *]), by (simp (maxDischargeDepth := 8) [go_sem, World.cell?_alloc_past, ltk2, ltk3, ltk4, ltk5, ltk6, ltk7, ltk8, ltk9, *]), by (simp (maxDischargeDepth := 8) [go_sem, World.cell?_alloc_past, ltk2, ltk3, ltk4, ltk5, ltk6, ltk7, ltk8, ltk9, *]), by (simp (maxDischargeDepth := 8) [go_sem, World.cell?_alloc_past, ltk2, ltk3, ltk4, ltk5, ltk6, ltk7, ltk8, ltk9, *]), by (simp (maxDischargeDepth := 8) [go_sem, World.cell?_alloc_past, ltk2, ltk3, ltk4, ltk5, ltk6, ltk7, ltk8, ltk9, *]), by (simp (maxDischargeDepth := 8) [go_sem, World.cell?_alloc_past, ltk2, ltk3, ltk4, ltk5, ltk6, ltk7, ltk8, ltk9, *]), by (simp (maxDischargeDepth := 8) [go_sem, World.cell?_alloc_past, ltk2, ltk3, ltk4, ltk5, ltk6, ltk7, ltk8, ltk9, *]), by (simp (maxDischargeDepth := 8) [go_sem, World.cell?_alloc_past, ltk2, ltk3, ltk4, ltk5, ltk6, ltk7, ltk8, ltk9, *]), by (simp (maxDischargeDepth := 8) [go_sem, World.cell?_alloc_past, ltk2, ltk3, ltk4, ltk5, ltk6, ltk7, ltk8, ltk9, *]), by (simp (maxDischargeDepth := 8) [go_sem, World.cell?_alloc_past, ltk2, ltk3, ltk4, ltk5, ltk6, ltk7, ltk8, ltk9, *]), by (simp (maxDischargeDepth := 8) [go_sem, World.cell?_alloc_past, ltk2, ltk3, ltk4, ltk5, ltk6, ltk7, ltk8, ltk9, *]), by (simp (maxDischargeDepth := 8) [go_sem, World.cell?_alloc_past, ltk2, ltk3, ltk4, ltk5, ltk6, ltk7, ltk8, ltk9, *]), by (simp (maxDischargeDepth := 8) [go_sem, World.cell?_alloc_past, ltk2, ltk3, ltk4, ltk5, ltk6, ltk7, ltk8, ltk9, *]), by (simp (maxDischargeDepth := 8) [go_sem, World.cell?_alloc_past, ltk2, ltk3, ltk4, ltk5, ltk6, ltk7, ltk8, ltk9, *]), by (simp (maxDischargeDepth := 8) [go_sem, World.cell?_alloc_past, ltk2, ltk3, ltk4, ltk5, ltk6, ltk7, ltk8, ltk9, *]), by (simp (maxDischargeDepth := 8) [go_sem, World.cell?_alloc_past, ltk2, ltk3, ltk4, ltk5, ltk6, ltk7, ltk8, ltk9, *]), by (simp (maxDischargeDepth := 8) [go_sem, World.cell?_alloc_past, ltk2, ltk3, ltk4, ltk5, ltk6, ltk7, ltk8, ltk9, *]), by (simp (maxDischargeDepth := 8) [go_sem, World.cell?_alloc_past, ltk2, ltk3, ltk4, ltk5, ltk6, ltk7, ltk8, ltk9, *]), by (simp (maxDischargeDepth := 8) [go_sem, World.cell?_alloc_past, ltk2, ltk3, ltk4, ltk5, ltk6, ltk7, ltk8, ltk9, *]), by (simp (maxDischargeDepth := 8) [go_sem, World.cell?_alloc_past, ltk2, ltk3, ltk4, ltk5, ltk6, ltk7, ltk8, ltk9, *]), by (simp (maxDischargeDepth := 8) [go_sem, World.cell?_alloc_past, ltk2, ltk3, ltk4, ltk5, ltk6, ltk7, ltk8, ltk9, *]), by (simp (maxDischargeDepth := 8) [go_sem, World.cell?_alloc_past, ltk2, ltk3, ltk4, ltk5, ltk6, ltk7, ltk8, ltk9, *]), by (simp (maxDischargeDepth := 8) [go_sem, World.cell?_alloc_past, ltk2, ltk3, ltk4, ltk5, ltk6, ltk7, ltk8, ltk9, *]), by (simp (maxDischargeDepth := 8) [go_sem, World.cell?_alloc_past, ltk2, ltk3, ltk4, ltk5, ltk6, ltk7, ltk8, ltk9, *]), by (simp (maxDischargeDepth := 8) [go_sem, World.cell?_alloc_past, ltk2, ltk3, ltk4, ltk5, ltk6, ltk7, ltk8, ltk9, *]), by (simp (maxDischargeDepth := 8) [go_sem, World.cell?_alloc_past, ltk2, ltk3, ltk4, ltk5, ltk6, ltk7, ltk8, ltk9, *]), by (simp (maxDischargeDepth := 8) [go_sem, World.cell?_alloc_past, ltk2, ltk3, ltk4, ltk5, ltk6, ltk7, ltk8, ltk9, *]), by (simp [ext_size]; try omega), by (simp [ext_size]; try omega), by (simp [ext_size]; try omega), by (simp [ext_size]; try omega), by (simp [ext_size]; try omega), by (simp [ext_size]; try omega), by (simp [ext_size]; try omega), by (repeat (first | with_reducible exact hB13 | (with_reducible refine bext ?_ _ _) | (with_reducible refine below_drewN ?_ _) | (with_reducible refine Below.drew ?_) | (with_reducible refine bal ?_ _) | (with_reducible refine bset ?_ (by first | omega | (simp <;> omega)) _)))⟩
  rintro wx ⟨k0, k1, k2, k3, k4, k5, k6, k7, k8, k9, k10, k11, k12, k13, k14, k15, k16, k17, k18, k19, k20, k21, k22, k23, k24, k25, k26, k27, k28, k29, zs0, zs1, zs2, zs3, zs4, zs5, zs6, hB⟩
  clear cc13_0 cc13_1 cc13_2 cc13_3 cc13_4 cc13_5 cc13_6 cc13_7 cc13_8 cc13_9 cc13_10 cc13_11 cc13_12 cc13_13 cc13_14 cc13_15 cc13_16 cc13_17 cc13_18 cc13_19 cc13_20 cc13_21 cc13_22 cc13_23 cc13_24 cc13_25 zl13_0 zl13_1 zl13_2 zl13_3 zl13_4 zz13 zw13 hB13 dAl dSt xC xF xS xN xD xL xE xG xX xL1 xL2 xL3 xM0 xM1 xM2 B0 B1 B2 B3 B4 N1 N2 N3 N4 O1 O2
  refine wp_region_held_drew (S := (fun w' => (w'.cell? ⟨v2.heap.size, 0, none⟩ = some (.int .i64 1000000) ∧ w'.cell? ⟨v2.heap.size, 1, none⟩ = some (.int .i64 1000000) ∧ w'.cell? ⟨v2.heap.size, 2, none⟩ = some (.int .i64 0) ∧ w'.cell? ⟨v2.heap.size, 3, none⟩ = some (.int .i64 0) ∧ w'.cell? ⟨v2.heap.size, 4, none⟩ = some (.int .i64 0) ∧ w'.cell? ⟨v2.heap.size, 5, none⟩ = some (.int .i64 0) ∧ w'.cell? ⟨v4.heap.size, 0, none⟩ = some (.int .i64 0) ∧ w'.cell? ⟨v4.heap.size, 1, none⟩ = some (.int .i64 0) ∧ w'.cell? ⟨v4.heap.size, 2, none⟩ = some (.int .i64 (-1000000)) ∧ w'.cell? ⟨v4.heap.size, 3, none⟩ = some (.int .i64 (-1000000)) ∧ w'.cell? ⟨v4.heap.size, 4, none⟩ = some (.int .i64 0) ∧ w'.cell? ⟨v4.heap.size, 5, none⟩ = some (.int .i64 0) ∧ w'.cell? ⟨v6.heap.size, 0, none⟩ = some (.int .i64 866025) ∧ w'.cell? ⟨v6.heap.size, 1, none⟩ = some (.int .i64 866026) ∧ w'.cell? ⟨v6.heap.size, 2, none⟩ = some (.int .i64 0) ∧ w'.cell? ⟨v6.heap.size, 3, none⟩ = some (.int .i64 0) ∧ w'.cell? ⟨v6.heap.size, 4, none⟩ = some (.int .i64 500000) ∧ w'.cell? ⟨v6.heap.size, 5, none⟩ = some (.int .i64 500000) ∧ w'.cell? ⟨v8.heap.size, 0, none⟩ = some (.int .i64 0) ∧ w'.cell? ⟨v8.heap.size, 1, none⟩ = some (.int .i64 0) ∧ w'.cell? ⟨v8.heap.size, 2, none⟩ = some (.int .i64 0) ∧ w'.cell? ⟨v8.heap.size, 3, none⟩ = some (.int .i64 0) ∧ w'.cell? ⟨v8.heap.size, 4, none⟩ = some (.int .i64 1000000) ∧ w'.cell? ⟨v8.heap.size, 5, none⟩ = some (.int .i64 1000000) ∧ w'.cell? ⟨v11.heap.size, 0, none⟩ = some (.int .i64 500000) ∧ w'.cell? ⟨v11.heap.size, 1, none⟩ = some (.int .i64 500000) ∧ w'.cell? ⟨v13.heap.size, 0, none⟩ = some (.int .i64 1000000) ∧ w'.cell? ⟨v13.heap.size, 1, none⟩ = some (.int .i64 1000000) ∧ w'.cell? ⟨v13.heap.size + 1, 0, none⟩ = some (.int .i64 0) ∧ w'.cell? ⟨v13.heap.size + 1, 1, none⟩ = some (.int .i64 0)) ∧ (v2.heap.size < w'.heap.size ∧ v4.heap.size < w'.heap.size ∧ v6.heap.size < w'.heap.size ∧ v8.heap.size < w'.heap.size ∧ v11.heap.size < w'.heap.size ∧ v13.heap.size < w'.heap.size ∧ v13.heap.size + 1 < w'.heap.size) ∧ Below w.heap.size w w')) (by kernel_rfl) ?_ (fun hHeld => ?_)
  · exact ⟨⟨k0, k1, k2, k3, k4, k5, k6, k7, k8, k9, k10, k11, k12, k13, k14, k15, k16, k17, k18, k19, k20, k21, k22, k23, k24, k25, k26, k27, k28, k29⟩, ⟨zs0, zs1, zs2, zs3, zs4, zs5, zs6⟩, Below.drew hB⟩
  refine wpAnyH_take (i := 0) (oi := { dst := some 41, op := Op.move (Operand.tmp 2), type := 22, pos := "law.go:58", after := #[], guard := none }) (v := ?_) rfl (by kernel_rfl) (by kernel_rfl) (by kernel_rfl) (fun _ _ _ h => h) (Or.inl ⟨by rfl, ?_⟩) (by assumption) ?_
  rotate_left
  · (intro w hSw; (try dsimp only at hSw); go_simp; (try simp [*]); (try with_reducible rfl))
  try simp only [Act.put, List.setIfInBounds_toArray, List.set_cons_zero, List.set_cons_succ]
  refine wpAnyH_take (i := 1) (oi := { dst := some 42, op := Op.binOp BinOp.eql 22 (Operand.tmp 41) (Operand.const (Value.int IntKind.i64 0)) 22, type := 4, pos := "law.go:58", after := #[{ on := 0, ground := Ground.data }], guard := none }) (v := ?_) rfl (by kernel_rfl) (by kernel_rfl) (by kernel_rfl) (fun _ _ _ h => h) (Or.inl ⟨by rfl, ?_⟩) (by assumption) ?_
  rotate_left
  · (intro w hSw; (try dsimp only at hSw); go_simp; (try simp [*]); (try with_reducible rfl))
  try simp only [Act.put, List.setIfInBounds_toArray, List.set_cons_zero, List.set_cons_succ]
  refine wpAnyH_take (i := 2) (oi := { dst := some 43, op := Op.move (Operand.tmp 42), type := 4, pos := "law.go:58", after := #[{ on := 1, ground := Ground.data }], guard := none }) (v := ?_) rfl (by kernel_rfl) (by kernel_rfl) (by kernel_rfl) (fun _ _ _ h => h) (Or.inl ⟨by rfl, ?_⟩) (by assumption) ?_
  rotate_left
  · (intro w hSw; (try dsimp only at hSw); go_simp; (try simp [*]); (try with_reducible rfl))
  try simp only [Act.put, List.setIfInBounds_toArray, List.set_cons_zero, List.set_cons_succ]
  refine wpAnyH_take (i := 3) (oi := { dst := some 44, op := Op.load 30 (Operand.tmp 1), type := 30, pos := "law.go:58", after := #[{ on := 2, ground := Ground.guard }], guard := some (2, true) }) (v := ?_) rfl (by kernel_rfl) (by kernel_rfl) (by kernel_rfl) (fun _ _ _ h => h) (Or.inl ⟨by rfl, ?_⟩) (by assumption) ?_
  rotate_left
  · (intro w hSw; (try dsimp only at hSw); go_simp; (try simp [*]); (try with_reducible rfl))
  try simp only [Act.put, List.setIfInBounds_toArray, List.set_cons_zero, List.set_cons_succ]
  refine wpAnyH_take (i := 4) (oi := { dst := some 45, op := Op.load 28 (Operand.tmp 11), type := 28, pos := "law.go:58", after := #[{ on := 2, ground := Ground.guard }], guard := some (2, true) }) (v := ?_) rfl (by kernel_rfl) (by kernel_rfl) (by kernel_rfl) (fun _ _ _ h => h) (Or.inl ⟨by rfl, ?_⟩) (by assumption) ?_
  rotate_left
  · (intro w hSw; (try dsimp only at hSw); go_simp; (try simp [*]); (try with_reducible rfl))
  try simp only [Act.put, List.setIfInBounds_toArray, List.set_cons_zero, List.set_cons_succ]
  refine wpAnyH_take (i := 5) (oi := { dst := some 46, op := Op.load 28 (Operand.tmp 12), type := 28, pos := "law.go:58", after := #[{ on := 2, ground := Ground.guard }], guard := some (2, true) }) (v := ?_) rfl (by kernel_rfl) (by kernel_rfl) (by kernel_rfl) (fun _ _ _ h => h) (Or.inl ⟨by rfl, ?_⟩) (by assumption) ?_
  rotate_left
  · (intro w hSw; (try dsimp only at hSw); go_simp; (try simp [*]); (try with_reducible rfl))
  try simp only [Act.put, List.setIfInBounds_toArray, List.set_cons_zero, List.set_cons_succ]
  refine wpAnyH_take (i := 6) (oi := { dst := some 47, op := Op.load 28 (Operand.tmp 12), type := 28, pos := "law.go:58", after := #[{ on := 2, ground := Ground.guard }], guard := some (2, true) }) (v := ?_) rfl (by kernel_rfl) (by kernel_rfl) (by kernel_rfl) (fun _ _ _ h => h) (Or.inl ⟨by rfl, ?_⟩) (by assumption) ?_
  rotate_left
  · (intro w hSw; (try dsimp only at hSw); go_simp; (try simp [*]); (try with_reducible rfl))
  try simp only [Act.put, List.setIfInBounds_toArray, List.set_cons_zero, List.set_cons_succ]
  refine wpAnyH_take (i := 7) (oi := { dst := some 48, op := Op.build 30 #[(0, Operand.tmp 45), (1, Operand.tmp 46), (2, Operand.tmp 47)], type := 30, pos := "law.go:58", after := #[{ on := 4, ground := Ground.data }, { on := 5, ground := Ground.data }, { on := 6, ground := Ground.data }, { on := 2, ground := Ground.guard }], guard := some (2, true) }) (v := ?_) rfl (by kernel_rfl) (by kernel_rfl) (by kernel_rfl) (fun _ _ _ h => h) (Or.inl ⟨by rfl, ?_⟩) (by assumption) ?_
  rotate_left
  · (intro w hSw; (try dsimp only at hSw); go_simp; (try simp [*]); (try with_reducible rfl))
  try simp only [Act.put, List.setIfInBounds_toArray, List.set_cons_zero, List.set_cons_succ]
  refine wpAnyH_take (i := 8) (oi := { dst := some 49, op := Op.binOp BinOp.eql 30 (Operand.tmp 44) (Operand.tmp 48) 30, type := 4, pos := "law.go:58", after := #[{ on := 3, ground := Ground.data }, { on := 7, ground := Ground.data }, { on := 2, ground := Ground.guard }], guard := some (2, true) }) (v := ?_) rfl (by kernel_rfl) (by kernel_rfl) (by kernel_rfl) (fun _ _ _ h => h) (Or.inl ⟨by rfl, ?_⟩) (by assumption) ?_
  rotate_left
  · (intro w hSw; (try dsimp only at hSw); go_simp; (try simp [*]); (try with_reducible rfl))
  try simp only [Act.put, List.setIfInBounds_toArray, List.set_cons_zero, List.set_cons_succ]
  refine wpAnyH_take (i := 9) (oi := { dst := some 50, op := Op.pick (Operand.tmp 43) (Operand.tmp 49) (Operand.const (Value.bool false)), type := 4, pos := "law.go:58", after := #[{ on := 2, ground := Ground.data }, { on := 8, ground := Ground.data }], guard := none }) (v := ?_) rfl (by kernel_rfl) (by kernel_rfl) (by kernel_rfl) (fun _ _ _ h => h) (Or.inl ⟨by rfl, ?_⟩) (by assumption) ?_
  rotate_left
  · (intro w hSw; (try dsimp only at hSw); go_simp; (try simp [*]); (try with_reducible rfl))
  try simp only [Act.put, List.setIfInBounds_toArray, List.set_cons_zero, List.set_cons_succ]
  refine wpAnyH_take (i := 10) (oi := { dst := some 51, op := Op.move (Operand.tmp 50), type := 4, pos := "law.go:58", after := #[{ on := 9, ground := Ground.data }, { on := 2, ground := Ground.chain }], guard := none }) (v := ?_) rfl (by kernel_rfl) (by kernel_rfl) (by kernel_rfl) (fun _ _ _ h => h) (Or.inl ⟨by rfl, ?_⟩) (by assumption) ?_
  rotate_left
  · (intro w hSw; (try dsimp only at hSw); go_simp; (try simp [*]); (try with_reducible rfl))
  try simp only [Act.put, List.setIfInBounds_toArray, List.set_cons_zero, List.set_cons_succ]
  refine wpAnyH_take (i := 11) (oi := { dst := some 52, op := Op.move (Operand.tmp 4), type := 22, pos := "law.go:58", after := #[{ on := 10, ground := Ground.guard }], guard := some (10, true) }) (v := ?_) rfl (by kernel_rfl) (by kernel_rfl) (by kernel_rfl) (fun _ _ _ h => h) (Or.inl ⟨by rfl, ?_⟩) (by assumption) ?_
  rotate_left
  · (intro w hSw; (try dsimp only at hSw); go_simp; (try simp [*]); (try with_reducible rfl))
  try simp only [Act.put, List.setIfInBounds_toArray, List.set_cons_zero, List.set_cons_succ]
  refine wpAnyH_take (i := 12) (oi := { dst := some 53, op := Op.binOp BinOp.eql 22 (Operand.tmp 52) (Operand.const (Value.int IntKind.i64 0)) 22, type := 4, pos := "law.go:58", after := #[{ on := 11, ground := Ground.data }, { on := 10, ground := Ground.guard }], guard := some (10, true) }) (v := ?_) rfl (by kernel_rfl) (by kernel_rfl) (by kernel_rfl) (fun _ _ _ h => h) (Or.inl ⟨by rfl, ?_⟩) (by assumption) ?_
  rotate_left
  · (intro w hSw; (try dsimp only at hSw); go_simp; (try simp [*]); (try with_reducible rfl))
  try simp only [Act.put, List.setIfInBounds_toArray, List.set_cons_zero, List.set_cons_succ]
  refine wpAnyH_take (i := 13) (oi := { dst := some 54, op := Op.pick (Operand.tmp 51) (Operand.tmp 53) (Operand.const (Value.bool false)), type := 4, pos := "law.go:58", after := #[{ on := 10, ground := Ground.data }, { on := 12, ground := Ground.data }], guard := none }) (v := ?_) rfl (by kernel_rfl) (by kernel_rfl) (by kernel_rfl) (fun _ _ _ h => h) (Or.inl ⟨by rfl, ?_⟩) (by assumption) ?_
  rotate_left
  · (intro w hSw; (try dsimp only at hSw); go_simp; (try simp [*]); (try with_reducible rfl))
  try simp only [Act.put, List.setIfInBounds_toArray, List.set_cons_zero, List.set_cons_succ]
  refine wpAnyH_take (i := 14) (oi := { dst := some 55, op := Op.move (Operand.tmp 54), type := 4, pos := "law.go:58", after := #[{ on := 13, ground := Ground.data }, { on := 10, ground := Ground.chain }], guard := none }) (v := ?_) rfl (by kernel_rfl) (by kernel_rfl) (by kernel_rfl) (fun _ _ _ h => h) (Or.inl ⟨by rfl, ?_⟩) (by assumption) ?_
  rotate_left
  · (intro w hSw; (try dsimp only at hSw); go_simp; (try simp [*]); (try with_reducible rfl))
  try simp only [Act.put, List.setIfInBounds_toArray, List.set_cons_zero, List.set_cons_succ]
  refine wpAnyH_take (i := 15) (oi := { dst := some 56, op := Op.load 30 (Operand.tmp 3), type := 30, pos := "law.go:58", after := #[{ on := 14, ground := Ground.guard }], guard := some (14, true) }) (v := ?_) rfl (by kernel_rfl) (by kernel_rfl) (by kernel_rfl) (fun _ _ _ h => h) (Or.inl ⟨by rfl, ?_⟩) (by assumption) ?_
  rotate_left
  · (intro w hSw; (try dsimp only at hSw); go_simp; (try simp [*]); (try with_reducible rfl))
  try simp only [Act.put, List.setIfInBounds_toArray, List.set_cons_zero, List.set_cons_succ]
  refine wpAnyH_take (i := 16) (oi := { dst := some 57, op := Op.load 28 (Operand.tmp 12), type := 28, pos := "law.go:58", after := #[{ on := 14, ground := Ground.guard }], guard := some (14, true) }) (v := ?_) rfl (by kernel_rfl) (by kernel_rfl) (by kernel_rfl) (fun _ _ _ h => h) (Or.inl ⟨by rfl, ?_⟩) (by assumption) ?_
  rotate_left
  · (intro w hSw; (try dsimp only at hSw); go_simp; (try simp [*]); (try with_reducible rfl))
  try simp only [Act.put, List.setIfInBounds_toArray, List.set_cons_zero, List.set_cons_succ]
  refine wpAnyH_take (i := 18) (oi := { dst := some 59, op := Op.load 28 (Operand.tmp 12), type := 28, pos := "law.go:58", after := #[{ on := 14, ground := Ground.guard }], guard := some (14, true) }) (v := ?_) rfl (by kernel_rfl) (by kernel_rfl) (by kernel_rfl) (fun _ _ _ h => h) (Or.inl ⟨by rfl, ?_⟩) (by assumption) ?_
  rotate_left
  · (intro w hSw; (try dsimp only at hSw); go_simp; (try simp [*]); (try with_reducible rfl))
  try simp only [Act.put, List.setIfInBounds_toArray, List.set_cons_zero, List.set_cons_succ]
  refine wpAnyH_ready (rs := [17]) (by kernel_rfl) (by simp) ?_
  refine AllReadyH.cons (o := { dst := some 58, op := Op.call { callee := Callee.value (Operand.func 12), args := #[Operand.const (Value.int IntKind.i64 (-1000000))], argTypes := #[2] }, type := 28, pos := "law.go:58", after := #[{ on := 14, ground := Ground.chain }, { on := 14, ground := Ground.guard }], guard := some (14, true) }) rfl (fun K hK => ?_) AllReadyH.nil
  go_simp
  with_reducible refine (O3 _).mono ?_
  rintro e w9 ⟨rfl, hb9⟩
  obtain ⟨l9, d9, rfl⟩ := toExt hb9
  clear hb9
  (try go_wp2_with fail)
  refine hK.out _ _ ?_ (fun hHeld2 => ?_)
  · (obtain ⟨⟨uk0, uk1, uk2, uk3, uk4, uk5, uk6, uk7, uk8, uk9, uk10, uk11, uk12, uk13, uk14, uk15, uk16, uk17, uk18, uk19, uk20, uk21, uk22, uk23, uk24, uk25, uk26, uk27, uk28, uk29⟩, ⟨uzs0, uzs1, uzs2, uzs3, uzs4, uzs5, uzs6⟩, uB⟩ := hHeld; exact ⟨⟨(ext_cell _ _ _ _ _ uzs0).trans uk0, (ext_cell _ _ _ _ _ uzs0).trans uk1, (ext_cell _ _ _ _ _ uzs0).trans uk2, (ext_cell _ _ _ _ _ uzs0).trans uk3, (ext_cell _ _ _ _ _ uzs0).trans uk4, (ext_cell _ _ _ _ _ uzs0).trans uk5, (ext_cell _ _ _ _ _ uzs1).trans uk6, (ext_cell _ _ _ _ _ uzs1).trans uk7, (ext_cell _ _ _ _ _ uzs1).trans uk8, (ext_cell _ _ _ _ _ uzs1).trans uk9, (ext_cell _ _ _ _ _ uzs1).trans uk10, (ext_cell _ _ _ _ _ uzs1).trans uk11, (ext_cell _ _ _ _ _ uzs2).trans uk12, (ext_cell _ _ _ _ _ uzs2).trans uk13, (ext_cell _ _ _ _ _ uzs2).trans uk14, (ext_cell _ _ _ _ _ uzs2).trans uk15, (ext_cell _ _ _ _ _ uzs2).trans uk16, (ext_cell _ _ _ _ _ uzs2).trans uk17, (ext_cell _ _ _ _ _ uzs3).trans uk18, (ext_cell _ _ _ _ _ uzs3).trans uk19, (ext_cell _ _ _ _ _ uzs3).trans uk20, (ext_cell _ _ _ _ _ uzs3).trans uk21, (ext_cell _ _ _ _ _ uzs3).trans uk22, (ext_cell _ _ _ _ _ uzs3).trans uk23, (ext_cell _ _ _ _ _ uzs4).trans uk24, (ext_cell _ _ _ _ _ uzs4).trans uk25, (ext_cell _ _ _ _ _ uzs5).trans uk26, (ext_cell _ _ _ _ _ uzs5).trans uk27, (ext_cell _ _ _ _ _ uzs6).trans uk28, (ext_cell _ _ _ _ _ uzs6).trans uk29⟩, ⟨ext_lt _ _ _ _ uzs0, ext_lt _ _ _ _ uzs1, ext_lt _ _ _ _ uzs2, ext_lt _ _ _ _ uzs3, ext_lt _ _ _ _ uzs4, ext_lt _ _ _ _ uzs5, ext_lt _ _ _ _ uzs6⟩, bext uB _ _⟩)
  clear hK K hHeld
  have hHeld := hHeld2
  clear hHeld2
  try simp only [Act.put, List.setIfInBounds_toArray, List.set_cons_zero, List.set_cons_succ]
  refine wpAnyH_take (i := 19) (oi := { dst := some 60, op := Op.build 30 #[(0, Operand.tmp 57), (1, Operand.tmp 58), (2, Operand.tmp 59)], type := 30, pos := "law.go:58", after := #[{ on := 16, ground := Ground.data }, { on := 17, ground := Ground.data }, { on := 18, ground := Ground.data }, { on := 14, ground := Ground.guard }], guard := some (14, true) }) (v := ?_) rfl (by kernel_rfl) (by kernel_rfl) (by kernel_rfl) (fun _ _ _ h => h) (Or.inl ⟨by rfl, ?_⟩) (by assumption) ?_
  rotate_left
  · (intro w hSw; (try dsimp only at hSw); go_simp; (try simp [*]); (try with_reducible rfl))
  try simp only [Act.put, List.setIfInBounds_toArray, List.set_cons_zero, List.set_cons_succ]
  refine wpAnyH_take (i := 20) (oi := { dst := some 61, op := Op.binOp BinOp.eql 30 (Operand.tmp 56) (Operand.tmp 60) 30, type := 4, pos := "law.go:58", after := #[{ on := 15, ground := Ground.data }, { on := 19, ground := Ground.data }, { on := 14, ground := Ground.guard }], guard := some (14, true) }) (v := ?_) rfl (by kernel_rfl) (by kernel_rfl) (by kernel_rfl) (fun _ _ _ h => h) (Or.inl ⟨by rfl, ?_⟩) (by assumption) ?_
  rotate_left
  · (intro w hSw; (try dsimp only at hSw); go_simp; (try simp [*]); (try with_reducible rfl))
  try simp only [Act.put, List.setIfInBounds_toArray, List.set_cons_zero, List.set_cons_succ]
  refine wpAnyH_take (i := 21) (oi := { dst := some 62, op := Op.pick (Operand.tmp 55) (Operand.tmp 61) (Operand.const (Value.bool false)), type := 4, pos := "law.go:58", after := #[{ on := 14, ground := Ground.data }, { on := 20, ground := Ground.data }], guard := none }) (v := ?_) rfl (by kernel_rfl) (by kernel_rfl) (by kernel_rfl) (fun _ _ _ h => h) (Or.inl ⟨by rfl, ?_⟩) (by assumption) ?_
  rotate_left
  · (intro w hSw; (try dsimp only at hSw); go_simp; (try simp [*]); (try with_reducible rfl))
  try simp only [Act.put, List.setIfInBounds_toArray, List.set_cons_zero, List.set_cons_succ]
  refine wpAnyH_take (i := 22) (oi := { dst := some 63, op := Op.move (Operand.tmp 62), type := 4, pos := "law.go:58", after := #[{ on := 21, ground := Ground.data }, { on := 17, ground := Ground.chain }], guard := none }) (v := ?_) rfl (by kernel_rfl) (by kernel_rfl) (by kernel_rfl) (fun _ _ _ h => h) (Or.inl ⟨by rfl, ?_⟩) (by assumption) ?_
  rotate_left
  · (intro w hSw; (try dsimp only at hSw); go_simp; (try simp [*]); (try with_reducible rfl))
  try simp only [Act.put, List.setIfInBounds_toArray, List.set_cons_zero, List.set_cons_succ]
  refine wpAnyH_take (i := 23) (oi := { dst := some 64, op := Op.move (Operand.tmp 6), type := 22, pos := "law.go:58", after := #[{ on := 22, ground := Ground.guard }], guard := some (22, true) }) (v := ?_) rfl (by kernel_rfl) (by kernel_rfl) (by kernel_rfl) (fun _ _ _ h => h) (Or.inl ⟨by rfl, ?_⟩) (by assumption) ?_
  rotate_left
  · (intro w hSw; (try dsimp only at hSw); go_simp; (try simp [*]); (try with_reducible rfl))
  try simp only [Act.put, List.setIfInBounds_toArray, List.set_cons_zero, List.set_cons_succ]
  refine wpAnyH_take (i := 24) (oi := { dst := some 65, op := Op.binOp BinOp.eql 22 (Operand.tmp 64) (Operand.const (Value.int IntKind.i64 0)) 22, type := 4, pos := "law.go:58", after := #[{ on := 23, ground := Ground.data }, { on := 22, ground := Ground.guard }], guard := some (22, true) }) (v := ?_) rfl (by kernel_rfl) (by kernel_rfl) (by kernel_rfl) (fun _ _ _ h => h) (Or.inl ⟨by rfl, ?_⟩) (by assumption) ?_
  rotate_left
  · (intro w hSw; (try dsimp only at hSw); go_simp; (try simp [*]); (try with_reducible rfl))
  try simp only [Act.put, List.setIfInBounds_toArray, List.set_cons_zero, List.set_cons_succ]
  refine wpAnyH_take (i := 25) (oi := { dst := some 66, op := Op.pick (Operand.tmp 63) (Operand.tmp 65) (Operand.const (Value.bool false)), type := 4, pos := "law.go:58", after := #[{ on := 22, ground := Ground.data }, { on := 24, ground := Ground.data }], guard := none }) (v := ?_) rfl (by kernel_rfl) (by kernel_rfl) (by kernel_rfl) (fun _ _ _ h => h) (Or.inl ⟨by rfl, ?_⟩) (by assumption) ?_
  rotate_left
  · (intro w hSw; (try dsimp only at hSw); go_simp; (try simp [*]); (try with_reducible rfl))
  try simp only [Act.put, List.setIfInBounds_toArray, List.set_cons_zero, List.set_cons_succ]
  refine wpAnyH_take (i := 26) (oi := { dst := some 67, op := Op.move (Operand.tmp 66), type := 4, pos := "law.go:58", after := #[{ on := 25, ground := Ground.data }, { on := 22, ground := Ground.chain }], guard := none }) (v := ?_) rfl (by kernel_rfl) (by kernel_rfl) (by kernel_rfl) (fun _ _ _ h => h) (Or.inl ⟨by rfl, ?_⟩) (by assumption) ?_
  rotate_left
  · (intro w hSw; (try dsimp only at hSw); go_simp; (try simp [*]); (try with_reducible rfl))
  try simp only [Act.put, List.setIfInBounds_toArray, List.set_cons_zero, List.set_cons_succ]
  refine wpAnyH_take (i := 27) (oi := { dst := some 68, op := Op.fieldAddr 30 (Operand.tmp 5) 2, type := 0, pos := "law.go:58", after := #[{ on := 26, ground := Ground.guard }], guard := some (26, true) }) (v := ?_) rfl (by kernel_rfl) (by kernel_rfl) (by kernel_rfl) (fun _ _ _ h => h) (Or.inl ⟨by rfl, ?_⟩) (by assumption) ?_
  rotate_left
  · (intro w hSw; (try dsimp only at hSw); go_simp; (try simp [*]); (try with_reducible rfl))
  try simp only [Act.put, List.setIfInBounds_toArray, List.set_cons_zero, List.set_cons_succ]
  refine wpAnyH_take (i := 28) (oi := { dst := some 69, op := Op.load 28 (Operand.tmp 68), type := 28, pos := "law.go:58", after := #[{ on := 27, ground := Ground.data }, { on := 26, ground := Ground.guard }], guard := some (26, true) }) (v := ?_) rfl (by kernel_rfl) (by kernel_rfl) (by kernel_rfl) (fun _ _ _ h => h) (Or.inl ⟨by rfl, ?_⟩) (by assumption) ?_
  rotate_left
  · (intro w hSw; (try dsimp only at hSw); go_simp; (try simp [*]); (try with_reducible rfl))
  try simp only [Act.put, List.setIfInBounds_toArray, List.set_cons_zero, List.set_cons_succ]
  refine wpAnyH_ready (rs := [29]) (by kernel_rfl) (by simp) ?_
  refine AllReadyH.cons (o := { dst := some 70, op := Op.call { callee := Callee.value (Operand.func 12), args := #[Operand.const (Value.int IntKind.i64 500000)], argTypes := #[2] }, type := 28, pos := "law.go:58", after := #[{ on := 26, ground := Ground.chain }, { on := 26, ground := Ground.guard }], guard := some (26, true) }) rfl (fun K hK => ?_) AllReadyH.nil
  go_simp
  with_reducible refine (O4 _).mono ?_
  rintro e w9 ⟨rfl, hb9⟩
  obtain ⟨l9, d9, rfl⟩ := toExt hb9
  clear hb9
  (try go_wp2_with fail)
  refine hK.out _ _ ?_ (fun hHeld2 => ?_)
  · (obtain ⟨⟨uk0, uk1, uk2, uk3, uk4, uk5, uk6, uk7, uk8, uk9, uk10, uk11, uk12, uk13, uk14, uk15, uk16, uk17, uk18, uk19, uk20, uk21, uk22, uk23, uk24, uk25, uk26, uk27, uk28, uk29⟩, ⟨uzs0, uzs1, uzs2, uzs3, uzs4, uzs5, uzs6⟩, uB⟩ := hHeld; exact ⟨⟨(ext_cell _ _ _ _ _ uzs0).trans uk0, (ext_cell _ _ _ _ _ uzs0).trans uk1, (ext_cell _ _ _ _ _ uzs0).trans uk2, (ext_cell _ _ _ _ _ uzs0).trans uk3, (ext_cell _ _ _ _ _ uzs0).trans uk4, (ext_cell _ _ _ _ _ uzs0).trans uk5, (ext_cell _ _ _ _ _ uzs1).trans uk6, (ext_cell _ _ _ _ _ uzs1).trans uk7, (ext_cell _ _ _ _ _ uzs1).trans uk8, (ext_cell _ _ _ _ _ uzs1).trans uk9, (ext_cell _ _ _ _ _ uzs1).trans uk10, (ext_cell _ _ _ _ _ uzs1).trans uk11, (ext_cell _ _ _ _ _ uzs2).trans uk12, (ext_cell _ _ _ _ _ uzs2).trans uk13, (ext_cell _ _ _ _ _ uzs2).trans uk14, (ext_cell _ _ _ _ _ uzs2).trans uk15, (ext_cell _ _ _ _ _ uzs2).trans uk16, (ext_cell _ _ _ _ _ uzs2).trans uk17, (ext_cell _ _ _ _ _ uzs3).trans uk18, (ext_cell _ _ _ _ _ uzs3).trans uk19, (ext_cell _ _ _ _ _ uzs3).trans uk20, (ext_cell _ _ _ _ _ uzs3).trans uk21, (ext_cell _ _ _ _ _ uzs3).trans uk22, (ext_cell _ _ _ _ _ uzs3).trans uk23, (ext_cell _ _ _ _ _ uzs4).trans uk24, (ext_cell _ _ _ _ _ uzs4).trans uk25, (ext_cell _ _ _ _ _ uzs5).trans uk26, (ext_cell _ _ _ _ _ uzs5).trans uk27, (ext_cell _ _ _ _ _ uzs6).trans uk28, (ext_cell _ _ _ _ _ uzs6).trans uk29⟩, ⟨ext_lt _ _ _ _ uzs0, ext_lt _ _ _ _ uzs1, ext_lt _ _ _ _ uzs2, ext_lt _ _ _ _ uzs3, ext_lt _ _ _ _ uzs4, ext_lt _ _ _ _ uzs5, ext_lt _ _ _ _ uzs6⟩, bext uB _ _⟩)
  clear hK K hHeld
  have hHeld := hHeld2
  clear hHeld2
  try simp only [Act.put, List.setIfInBounds_toArray, List.set_cons_zero, List.set_cons_succ]
  refine wpAnyH_take (i := 30) (oi := { dst := some 71, op := Op.binOp BinOp.eql 28 (Operand.tmp 69) (Operand.tmp 70) 28, type := 4, pos := "law.go:58", after := #[{ on := 28, ground := Ground.data }, { on := 29, ground := Ground.data }, { on := 26, ground := Ground.guard }], guard := some (26, true) }) (v := ?_) rfl (by kernel_rfl) (by kernel_rfl) (by kernel_rfl) (fun _ _ _ h => h) (Or.inl ⟨by rfl, ?_⟩) (by assumption) ?_
  rotate_left
  · (intro w hSw; (try dsimp only at hSw); go_simp; (try simp [*]); (try with_reducible rfl))
  try simp only [Act.put, List.setIfInBounds_toArray, List.set_cons_zero, List.set_cons_succ]
  refine wpAnyH_take (i := 31) (oi := { dst := some 72, op := Op.pick (Operand.tmp 67) (Operand.tmp 71) (Operand.const (Value.bool false)), type := 4, pos := "law.go:58", after := #[{ on := 26, ground := Ground.data }, { on := 30, ground := Ground.data }], guard := none }) (v := ?_) rfl (by kernel_rfl) (by kernel_rfl) (by kernel_rfl) (fun _ _ _ h => h) (Or.inl ⟨by rfl, ?_⟩) (by assumption) ?_
  rotate_left
  · (intro w hSw; (try dsimp only at hSw); go_simp; (try simp [*]); (try with_reducible rfl))
  try simp only [Act.put, List.setIfInBounds_toArray, List.set_cons_zero, List.set_cons_succ]
  refine wpAnyH_take (i := 32) (oi := { dst := some 73, op := Op.move (Operand.tmp 72), type := 4, pos := "law.go:58", after := #[{ on := 31, ground := Ground.data }, { on := 29, ground := Ground.chain }], guard := none }) (v := ?_) rfl (by kernel_rfl) (by kernel_rfl) (by kernel_rfl) (fun _ _ _ h => h) (Or.inl ⟨by rfl, ?_⟩) (by assumption) ?_
  rotate_left
  · (intro w hSw; (try dsimp only at hSw); go_simp; (try simp [*]); (try with_reducible rfl))
  try simp only [Act.put, List.setIfInBounds_toArray, List.set_cons_zero, List.set_cons_succ]
  refine wpAnyH_take (i := 33) (oi := { dst := some 74, op := Op.fieldAddr 30 (Operand.tmp 5) 0, type := 0, pos := "law.go:58", after := #[{ on := 32, ground := Ground.guard }], guard := some (32, true) }) (v := ?_) rfl (by kernel_rfl) (by kernel_rfl) (by kernel_rfl) (fun _ _ _ h => h) (Or.inl ⟨by rfl, ?_⟩) (by assumption) ?_
  rotate_left
  · (intro w hSw; (try dsimp only at hSw); go_simp; (try simp [*]); (try with_reducible rfl))
  try simp only [Act.put, List.setIfInBounds_toArray, List.set_cons_zero, List.set_cons_succ]
  refine wpAnyH_take (i := 34) (oi := { dst := some 75, op := Op.load 28 (Operand.tmp 74), type := 28, pos := "law.go:58", after := #[{ on := 33, ground := Ground.data }, { on := 32, ground := Ground.guard }], guard := some (32, true) }) (v := ?_) rfl (by kernel_rfl) (by kernel_rfl) (by kernel_rfl) (fun _ _ _ h => h) (Or.inl ⟨by rfl, ?_⟩) (by assumption) ?_
  rotate_left
  · (intro w hSw; (try dsimp only at hSw); go_simp; (try simp [*]); (try with_reducible rfl))
  try simp only [Act.put, List.setIfInBounds_toArray, List.set_cons_zero, List.set_cons_succ]
  refine wpAnyH_take (i := 35) (oi := { dst := some 76, op := Op.build 28 #[(0, Operand.const (Value.int IntKind.i64 866025)), (1, Operand.const (Value.int IntKind.i64 866026))], type := 28, pos := "law.go:58", after := #[{ on := 32, ground := Ground.guard }], guard := some (32, true) }) (v := ?_) rfl (by kernel_rfl) (by kernel_rfl) (by kernel_rfl) (fun _ _ _ h => h) (Or.inl ⟨by rfl, ?_⟩) (by assumption) ?_
  rotate_left
  · (intro w hSw; (try dsimp only at hSw); go_simp; (try simp [*]); (try with_reducible rfl))
  try simp only [Act.put, List.setIfInBounds_toArray, List.set_cons_zero, List.set_cons_succ]
  refine wpAnyH_take (i := 36) (oi := { dst := some 77, op := Op.binOp BinOp.eql 28 (Operand.tmp 75) (Operand.tmp 76) 28, type := 4, pos := "law.go:58", after := #[{ on := 34, ground := Ground.data }, { on := 35, ground := Ground.data }, { on := 32, ground := Ground.guard }], guard := some (32, true) }) (v := ?_) rfl (by kernel_rfl) (by kernel_rfl) (by kernel_rfl) (fun _ _ _ h => h) (Or.inl ⟨by rfl, ?_⟩) (by assumption) ?_
  rotate_left
  · (intro w hSw; (try dsimp only at hSw); go_simp; (try simp [*]); (try with_reducible rfl))
  try simp only [Act.put, List.setIfInBounds_toArray, List.set_cons_zero, List.set_cons_succ]
  refine wpAnyH_take (i := 37) (oi := { dst := some 78, op := Op.pick (Operand.tmp 73) (Operand.tmp 77) (Operand.const (Value.bool false)), type := 4, pos := "law.go:58", after := #[{ on := 32, ground := Ground.data }, { on := 36, ground := Ground.data }], guard := none }) (v := ?_) rfl (by kernel_rfl) (by kernel_rfl) (by kernel_rfl) (fun _ _ _ h => h) (Or.inl ⟨by rfl, ?_⟩) (by assumption) ?_
  rotate_left
  · (intro w hSw; (try dsimp only at hSw); go_simp; (try simp [*]); (try with_reducible rfl))
  try simp only [Act.put, List.setIfInBounds_toArray, List.set_cons_zero, List.set_cons_succ]
  refine wpAnyH_take (i := 38) (oi := { dst := some 79, op := Op.move (Operand.tmp 78), type := 4, pos := "law.go:58", after := #[{ on := 37, ground := Ground.data }, { on := 32, ground := Ground.chain }], guard := none }) (v := ?_) rfl (by kernel_rfl) (by kernel_rfl) (by kernel_rfl) (fun _ _ _ h => h) (Or.inl ⟨by rfl, ?_⟩) (by assumption) ?_
  rotate_left
  · (intro w hSw; (try dsimp only at hSw); go_simp; (try simp [*]); (try with_reducible rfl))
  try simp only [Act.put, List.setIfInBounds_toArray, List.set_cons_zero, List.set_cons_succ]
  refine wpAnyH_take (i := 39) (oi := { dst := some 80, op := Op.move (Operand.tmp 8), type := 22, pos := "law.go:58", after := #[{ on := 38, ground := Ground.guard }], guard := some (38, true) }) (v := ?_) rfl (by kernel_rfl) (by kernel_rfl) (by kernel_rfl) (fun _ _ _ h => h) (Or.inl ⟨by rfl, ?_⟩) (by assumption) ?_
  rotate_left
  · (intro w hSw; (try dsimp only at hSw); go_simp; (try simp [*]); (try with_reducible rfl))
  try simp only [Act.put, List.setIfInBounds_toArray, List.set_cons_zero, List.set_cons_succ]
  refine wpAnyH_take (i := 40) (oi := { dst := some 81, op := Op.binOp BinOp.eql 22 (Operand.tmp 80) (Operand.const (Value.int IntKind.i64 0)) 22, type := 4, pos := "law.go:58", after := #[{ on := 39, ground := Ground.data }, { on := 38, ground := Ground.guard }], guard := some (38, true) }) (v := ?_) rfl (by kernel_rfl) (by kernel_rfl) (by kernel_rfl) (fun _ _ _ h => h) (Or.inl ⟨by rfl, ?_⟩) (by assumption) ?_
  rotate_left
  · (intro w hSw; (try dsimp only at hSw); go_simp; (try simp [*]); (try with_reducible rfl))
  try simp only [Act.put, List.setIfInBounds_toArray, List.set_cons_zero, List.set_cons_succ]
  refine wpAnyH_take (i := 41) (oi := { dst := some 82, op := Op.pick (Operand.tmp 79) (Operand.tmp 81) (Operand.const (Value.bool false)), type := 4, pos := "law.go:58", after := #[{ on := 38, ground := Ground.data }, { on := 40, ground := Ground.data }], guard := none }) (v := ?_) rfl (by kernel_rfl) (by kernel_rfl) (by kernel_rfl) (fun _ _ _ h => h) (Or.inl ⟨by rfl, ?_⟩) (by assumption) ?_
  rotate_left
  · (intro w hSw; (try dsimp only at hSw); go_simp; (try simp [*]); (try with_reducible rfl))
  try simp only [Act.put, List.setIfInBounds_toArray, List.set_cons_zero, List.set_cons_succ]
  refine wpAnyH_take (i := 42) (oi := { dst := some 83, op := Op.move (Operand.tmp 82), type := 4, pos := "law.go:58", after := #[{ on := 41, ground := Ground.data }, { on := 38, ground := Ground.chain }], guard := none }) (v := ?_) rfl (by kernel_rfl) (by kernel_rfl) (by kernel_rfl) (fun _ _ _ h => h) (Or.inl ⟨by rfl, ?_⟩) (by assumption) ?_
  rotate_left
  · (intro w hSw; (try dsimp only at hSw); go_simp; (try simp [*]); (try with_reducible rfl))
  try simp only [Act.put, List.setIfInBounds_toArray, List.set_cons_zero, List.set_cons_succ]
  refine wpAnyH_take (i := 43) (oi := { dst := some 84, op := Op.load 30 (Operand.tmp 7), type := 30, pos := "law.go:58", after := #[{ on := 42, ground := Ground.guard }], guard := some (42, true) }) (v := ?_) rfl (by kernel_rfl) (by kernel_rfl) (by kernel_rfl) (fun _ _ _ h => h) (Or.inl ⟨by rfl, ?_⟩) (by assumption) ?_
  rotate_left
  · (intro w hSw; (try dsimp only at hSw); go_simp; (try simp [*]); (try with_reducible rfl))
  try simp only [Act.put, List.setIfInBounds_toArray, List.set_cons_zero, List.set_cons_succ]
  refine wpAnyH_take (i := 44) (oi := { dst := some 85, op := Op.load 28 (Operand.tmp 12), type := 28, pos := "law.go:58", after := #[{ on := 42, ground := Ground.guard }], guard := some (42, true) }) (v := ?_) rfl (by kernel_rfl) (by kernel_rfl) (by kernel_rfl) (fun _ _ _ h => h) (Or.inl ⟨by rfl, ?_⟩) (by assumption) ?_
  rotate_left
  · (intro w hSw; (try dsimp only at hSw); go_simp; (try simp [*]); (try with_reducible rfl))
  try simp only [Act.put, List.setIfInBounds_toArray, List.set_cons_zero, List.set_cons_succ]
  refine wpAnyH_take (i := 45) (oi := { dst := some 86, op := Op.load 28 (Operand.tmp 12), type := 28, pos := "law.go:58", after := #[{ on := 42, ground := Ground.guard }], guard := some (42, true) }) (v := ?_) rfl (by kernel_rfl) (by kernel_rfl) (by kernel_rfl) (fun _ _ _ h => h) (Or.inl ⟨by rfl, ?_⟩) (by assumption) ?_
  rotate_left
  · (intro w hSw; (try dsimp only at hSw); go_simp; (try simp [*]); (try with_reducible rfl))
  try simp only [Act.put, List.setIfInBounds_toArray, List.set_cons_zero, List.set_cons_succ]
  refine wpAnyH_take (i := 46) (oi := { dst := some 87, op := Op.load 28 (Operand.tmp 11), type := 28, pos := "law.go:58", after := #[{ on := 42, ground := Ground.guard }], guard := some (42, true) }) (v := ?_) rfl (by kernel_rfl) (by kernel_rfl) (by kernel_rfl) (fun _ _ _ h => h) (Or.inl ⟨by rfl, ?_⟩) (by assumption) ?_
  rotate_left
  · (intro w hSw; (try dsimp only at hSw); go_simp; (try simp [*]); (try with_reducible rfl))
  try simp only [Act.put, List.setIfInBounds_toArray, List.set_cons_zero, List.set_cons_succ]
  refine wpAnyH_take (i := 47) (oi := { dst := some 88, op := Op.build 30 #[(0, Operand.tmp 85), (1, Operand.tmp 86), (2, Operand.tmp 87)], type := 30, pos := "law.go:58", after := #[{ on := 44, ground := Ground.data }, { on := 45, ground := Ground.data }, { on := 46, ground := Ground.data }, { on := 42, ground := Ground.guard }], guard := some (42, true) }) (v := ?_) rfl (by kernel_rfl) (by kernel_rfl) (by kernel_rfl) (fun _ _ _ h => h) (Or.inl ⟨by rfl, ?_⟩) (by assumption) ?_
  rotate_left
  · (intro w hSw; (try dsimp only at hSw); go_simp; (try simp [*]); (try with_reducible rfl))
  try simp only [Act.put, List.setIfInBounds_toArray, List.set_cons_zero, List.set_cons_succ]
  refine wpAnyH_take (i := 48) (oi := { dst := some 89, op := Op.binOp BinOp.eql 30 (Operand.tmp 84) (Operand.tmp 88) 30, type := 4, pos := "law.go:58", after := #[{ on := 43, ground := Ground.data }, { on := 47, ground := Ground.data }, { on := 42, ground := Ground.guard }], guard := some (42, true) }) (v := ?_) rfl (by kernel_rfl) (by kernel_rfl) (by kernel_rfl) (fun _ _ _ h => h) (Or.inl ⟨by rfl, ?_⟩) (by assumption) ?_
  rotate_left
  · (intro w hSw; (try dsimp only at hSw); go_simp; (try simp [*]); (try with_reducible rfl))
  try simp only [Act.put, List.setIfInBounds_toArray, List.set_cons_zero, List.set_cons_succ]
  refine wpAnyH_take (i := 49) (oi := { dst := some 90, op := Op.pick (Operand.tmp 83) (Operand.tmp 89) (Operand.const (Value.bool false)), type := 4, pos := "law.go:58", after := #[{ on := 42, ground := Ground.data }, { on := 48, ground := Ground.data }], guard := none }) (v := ?_) rfl (by kernel_rfl) (by kernel_rfl) (by kernel_rfl) (fun _ _ _ h => h) (Or.inl ⟨by rfl, ?_⟩) (by assumption) ?_
  rotate_left
  · (intro w hSw; (try dsimp only at hSw); go_simp; (try simp [*]); (try with_reducible rfl))
  try simp only [Act.put, List.setIfInBounds_toArray, List.set_cons_zero, List.set_cons_succ]
  refine wpAnyH_take (i := 50) (oi := { dst := some 91, op := Op.move (Operand.tmp 90), type := 4, pos := "law.go:58", after := #[{ on := 49, ground := Ground.data }, { on := 42, ground := Ground.chain }], guard := none }) (v := ?_) rfl (by kernel_rfl) (by kernel_rfl) (by kernel_rfl) (fun _ _ _ h => h) (Or.inl ⟨by rfl, ?_⟩) (by assumption) ?_
  rotate_left
  · (intro w hSw; (try dsimp only at hSw); go_simp; (try simp [*]); (try with_reducible rfl))
  try simp only [Act.put, List.setIfInBounds_toArray, List.set_cons_zero, List.set_cons_succ]
  refine wpAnyH_take (i := 51) (oi := { dst := some 92, op := Op.move (Operand.tmp 10), type := 22, pos := "law.go:58", after := #[{ on := 50, ground := Ground.guard }], guard := some (50, true) }) (v := ?_) rfl (by kernel_rfl) (by kernel_rfl) (by kernel_rfl) (fun _ _ _ h => h) (Or.inl ⟨by rfl, ?_⟩) (by assumption) ?_
  rotate_left
  · (intro w hSw; (try dsimp only at hSw); go_simp; (try simp [*]); (try with_reducible rfl))
  try simp only [Act.put, List.setIfInBounds_toArray, List.set_cons_zero, List.set_cons_succ]
  refine wpAnyH_take (i := 52) (oi := { dst := some 93, op := Op.binOp BinOp.eql 22 (Operand.tmp 92) (Operand.const (Value.int IntKind.i64 0)) 22, type := 4, pos := "law.go:58", after := #[{ on := 51, ground := Ground.data }, { on := 50, ground := Ground.guard }], guard := some (50, true) }) (v := ?_) rfl (by kernel_rfl) (by kernel_rfl) (by kernel_rfl) (fun _ _ _ h => h) (Or.inl ⟨by rfl, ?_⟩) (by assumption) ?_
  rotate_left
  · (intro w hSw; (try dsimp only at hSw); go_simp; (try simp [*]); (try with_reducible rfl))
  try simp only [Act.put, List.setIfInBounds_toArray, List.set_cons_zero, List.set_cons_succ]
  refine wpAnyH_take (i := 53) (oi := { dst := some 94, op := Op.pick (Operand.tmp 91) (Operand.tmp 93) (Operand.const (Value.bool false)), type := 4, pos := "law.go:58", after := #[{ on := 50, ground := Ground.data }, { on := 52, ground := Ground.data }], guard := none }) (v := ?_) rfl (by kernel_rfl) (by kernel_rfl) (by kernel_rfl) (fun _ _ _ h => h) (Or.inl ⟨by rfl, ?_⟩) (by assumption) ?_
  rotate_left
  · (intro w hSw; (try dsimp only at hSw); go_simp; (try simp [*]); (try with_reducible rfl))
  try simp only [Act.put, List.setIfInBounds_toArray, List.set_cons_zero, List.set_cons_succ]
  refine wpAnyH_take (i := 54) (oi := { dst := some 95, op := Op.move (Operand.tmp 94), type := 4, pos := "law.go:58", after := #[{ on := 53, ground := Ground.data }, { on := 50, ground := Ground.chain }], guard := none }) (v := ?_) rfl (by kernel_rfl) (by kernel_rfl) (by kernel_rfl) (fun _ _ _ h => h) (Or.inl ⟨by rfl, ?_⟩) (by assumption) ?_
  rotate_left
  · (intro w hSw; (try dsimp only at hSw); go_simp; (try simp [*]); (try with_reducible rfl))
  try simp only [Act.put, List.setIfInBounds_toArray, List.set_cons_zero, List.set_cons_succ]
  refine wpAnyH_take (i := 55) (oi := { dst := some 96, op := Op.load 28 (Operand.tmp 9), type := 28, pos := "law.go:58", after := #[{ on := 54, ground := Ground.guard }], guard := some (54, true) }) (v := ?_) rfl (by kernel_rfl) (by kernel_rfl) (by kernel_rfl) (fun _ _ _ h => h) (Or.inl ⟨by rfl, ?_⟩) (by assumption) ?_
  rotate_left
  · (intro w hSw; (try dsimp only at hSw); go_simp; (try simp [*]); (try with_reducible rfl))
  try simp only [Act.put, List.setIfInBounds_toArray, List.set_cons_zero, List.set_cons_succ]
  refine wpAnyH_ready (rs := [56]) (by kernel_rfl) (by simp) ?_
  refine AllReadyH.cons (o := { dst := some 97, op := Op.call { callee := Callee.value (Operand.func 12), args := #[Operand.const (Value.int IntKind.i64 500000)], argTypes := #[2] }, type := 28, pos := "law.go:58", after := #[{ on := 54, ground := Ground.chain }, { on := 54, ground := Ground.guard }], guard := some (54, true) }) rfl (fun K hK => ?_) AllReadyH.nil
  go_simp
  with_reducible refine (O4 _).mono ?_
  rintro e w9 ⟨rfl, hb9⟩
  obtain ⟨l9, d9, rfl⟩ := toExt hb9
  clear hb9
  (try go_wp2_with fail)
  refine hK.out _ _ ?_ (fun hHeld2 => ?_)
  · (obtain ⟨⟨uk0, uk1, uk2, uk3, uk4, uk5, uk6, uk7, uk8, uk9, uk10, uk11, uk12, uk13, uk14, uk15, uk16, uk17, uk18, uk19, uk20, uk21, uk22, uk23, uk24, uk25, uk26, uk27, uk28, uk29⟩, ⟨uzs0, uzs1, uzs2, uzs3, uzs4, uzs5, uzs6⟩, uB⟩ := hHeld; exact ⟨⟨(ext_cell _ _ _ _ _ uzs0).trans uk0, (ext_cell _ _ _ _ _ uzs0).trans uk1, (ext_cell _ _ _ _ _ uzs0).trans uk2, (ext_cell _ _ _ _ _ uzs0).trans uk3, (ext_cell _ _ _ _ _ uzs0).trans uk4, (ext_cell _ _ _ _ _ uzs0).trans uk5, (ext_cell _ _ _ _ _ uzs1).trans uk6, (ext_cell _ _ _ _ _ uzs1).trans uk7, (ext_cell _ _ _ _ _ uzs1).trans uk8, (ext_cell _ _ _ _ _ uzs1).trans uk9, (ext_cell _ _ _ _ _ uzs1).trans uk10, (ext_cell _ _ _ _ _ uzs1).trans uk11, (ext_cell _ _ _ _ _ uzs2).trans uk12, (ext_cell _ _ _ _ _ uzs2).trans uk13, (ext_cell _ _ _ _ _ uzs2).trans uk14, (ext_cell _ _ _ _ _ uzs2).trans uk15, (ext_cell _ _ _ _ _ uzs2).trans uk16, (ext_cell _ _ _ _ _ uzs2).trans uk17, (ext_cell _ _ _ _ _ uzs3).trans uk18, (ext_cell _ _ _ _ _ uzs3).trans uk19, (ext_cell _ _ _ _ _ uzs3).trans uk20, (ext_cell _ _ _ _ _ uzs3).trans uk21, (ext_cell _ _ _ _ _ uzs3).trans uk22, (ext_cell _ _ _ _ _ uzs3).trans uk23, (ext_cell _ _ _ _ _ uzs4).trans uk24, (ext_cell _ _ _ _ _ uzs4).trans uk25, (ext_cell _ _ _ _ _ uzs5).trans uk26, (ext_cell _ _ _ _ _ uzs5).trans uk27, (ext_cell _ _ _ _ _ uzs6).trans uk28, (ext_cell _ _ _ _ _ uzs6).trans uk29⟩, ⟨ext_lt _ _ _ _ uzs0, ext_lt _ _ _ _ uzs1, ext_lt _ _ _ _ uzs2, ext_lt _ _ _ _ uzs3, ext_lt _ _ _ _ uzs4, ext_lt _ _ _ _ uzs5, ext_lt _ _ _ _ uzs6⟩, bext uB _ _⟩)
  clear hK K hHeld
  have hHeld := hHeld2
  clear hHeld2
  try simp only [Act.put, List.setIfInBounds_toArray, List.set_cons_zero, List.set_cons_succ]
  refine wpAnyH_take (i := 57) (oi := { dst := some 98, op := Op.binOp BinOp.eql 28 (Operand.tmp 96) (Operand.tmp 97) 28, type := 4, pos := "law.go:58", after := #[{ on := 55, ground := Ground.data }, { on := 56, ground := Ground.data }, { on := 54, ground := Ground.guard }], guard := some (54, true) }) (v := ?_) rfl (by kernel_rfl) (by kernel_rfl) (by kernel_rfl) (fun _ _ _ h => h) (Or.inl ⟨by rfl, ?_⟩) (by assumption) ?_
  rotate_left
  · (intro w hSw; (try dsimp only at hSw); go_simp; (try simp [*]); (try with_reducible rfl))
  try simp only [Act.put, List.setIfInBounds_toArray, List.set_cons_zero, List.set_cons_succ]
  refine wpAnyH_take (i := 58) (oi := { dst := some 99, op := Op.pick (Operand.tmp 95) (Operand.tmp 98) (Operand.const (Value.bool false)), type := 4, pos := "law.go:58", after := #[{ on := 54, ground := Ground.data }, { on := 57, ground := Ground.data }], guard := none }) (v := ?_) rfl (by kernel_rfl) (by kernel_rfl) (by kernel_rfl) (fun _ _ _ h => h) (Or.inl ⟨by rfl, ?_⟩) (by assumption) ?_
  rotate_left
  · (intro w hSw; (try dsimp only at hSw); go_simp; (try simp [*]); (try with_reducible rfl))
  try simp only [Act.put, List.setIfInBounds_toArray, List.set_cons_zero, List.set_cons_succ]
  refine wpAnyH_take (i := 59) (oi := { dst := some 0, op := Op.assign (Operand.tmp 99), type := 4, pos := "law.go:58", after := #[{ on := 58, ground := Ground.data }, { on := 56, ground := Ground.chain }, { on := 0, ground := Ground.phase }, { on := 1, ground := Ground.phase }, { on := 2, ground := Ground.phase }, { on := 3, ground := Ground.phase }, { on := 4, ground := Ground.phase }, { on := 5, ground := Ground.phase }, { on := 6, ground := Ground.phase }, { on := 7, ground := Ground.phase }, { on := 8, ground := Ground.phase }, { on := 9, ground := Ground.phase }, { on := 10, ground := Ground.phase }, { on := 11, ground := Ground.phase }, { on := 12, ground := Ground.phase }, { on := 13, ground := Ground.phase }, { on := 14, ground := Ground.phase }, { on := 15, ground := Ground.phase }, { on := 16, ground := Ground.phase }, { on := 17, ground := Ground.phase }, { on := 18, ground := Ground.phase }, { on := 19, ground := Ground.phase }, { on := 20, ground := Ground.phase }, { on := 21, ground := Ground.phase }, { on := 22, ground := Ground.phase }, { on := 23, ground := Ground.phase }, { on := 24, ground := Ground.phase }, { on := 25, ground := Ground.phase }, { on := 26, ground := Ground.phase }, { on := 27, ground := Ground.phase }, { on := 28, ground := Ground.phase }, { on := 29, ground := Ground.phase }, { on := 30, ground := Ground.phase }, { on := 31, ground := Ground.phase }, { on := 32, ground := Ground.phase }, { on := 33, ground := Ground.phase }, { on := 34, ground := Ground.phase }, { on := 35, ground := Ground.phase }, { on := 36, ground := Ground.phase }, { on := 37, ground := Ground.phase }, { on := 38, ground := Ground.phase }, { on := 39, ground := Ground.phase }, { on := 40, ground := Ground.phase }, { on := 41, ground := Ground.phase }, { on := 42, ground := Ground.phase }, { on := 43, ground := Ground.phase }, { on := 44, ground := Ground.phase }, { on := 45, ground := Ground.phase }, { on := 46, ground := Ground.phase }, { on := 47, ground := Ground.phase }, { on := 48, ground := Ground.phase }, { on := 49, ground := Ground.phase }, { on := 50, ground := Ground.phase }, { on := 51, ground := Ground.phase }, { on := 52, ground := Ground.phase }, { on := 53, ground := Ground.phase }, { on := 54, ground := Ground.phase }, { on := 55, ground := Ground.phase }, { on := 56, ground := Ground.phase }, { on := 57, ground := Ground.phase }, { on := 58, ground := Ground.phase }], guard := none }) (v := ?_) rfl (by kernel_rfl) (by kernel_rfl) (by kernel_rfl) (fun _ _ _ h => h) (Or.inl ⟨by rfl, ?_⟩) (by assumption) ?_
  rotate_left
  · (intro w hSw; (try dsimp only at hSw); go_simp; (try simp [*]); (try with_reducible rfl))
  try simp only [Act.put, List.setIfInBounds_toArray, List.set_cons_zero, List.set_cons_succ]
  refine wpAnyH_done (by kernel_rfl) ?_ _
  go_wp2
  go_ret
  exact ⟨rfl, hHeld.2.2⟩
end Go.Proofs.Ytmjbeplcabomdaa
