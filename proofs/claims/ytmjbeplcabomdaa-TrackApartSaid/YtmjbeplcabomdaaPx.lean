/-
  TrackApart, walked.
-/
import Derived.Test.YtmjbeplcabomdaaPm
import Derived.Test.YtmjbeplcabomdaaPr
namespace Go.Proofs.Ytmjbeplcabomdaa
open Go.RowKit
set_option linter.unusedVariables false
set_option linter.unusedSimpArgs false
theorem ftB_out2 {s : ByteArray} {ra dec t : Int} (h : ftB s ra dec t = true) : s.size ≤ 200 ∧ srE s ra dec = 0 ∧ -900000 ≤ t ∧ t ≤ 900000 := by simpa [ftB] using h
theorem tk_in2 {t : Int} (h1 : -900000 ≤ t) (h2 : t ≤ 900000) : tkB t = true := by simp [tkB]; omega
theorem srE_turn {s : ByteArray} {ra dec r : Int} (h : srE s ra dec = 0) (h1 : 0 ≤ r) (h2 : r < 720) : srE s r dec = 0 := by
  obtain ⟨n, _, _, d1, d2⟩ := srE_ok h
  rw [srE, if_pos n, if_neg (by omega), if_neg (by omega), if_neg (by omega), if_neg (by omega)]
set_option maxHeartbeats 400000 in
theorem ref6_Common (a b c d : Int) (w : World) : Calls Try.prog 24 #[.agg #[.int .i64 a, .int .i64 b], .agg #[.int .i64 c, .int .i64 d]] w fun x w' => x = .returned (.bool (decide (a ≤ d ∧ c ≤ b))) ∧ Below w.heap.size w w' := by
  go_enter Try.func24, Try.ntmps24
  go_wp2
  all_goals go_ret
  all_goals exact ⟨ret_sb (by simp [*]; try omega), by (repeat (first | with_reducible exact b0 _ | (with_reducible refine bext ?_ _ _) | (with_reducible refine below_drewN ?_ _) | (with_reducible refine Below.drew ?_) | (with_reducible refine bal ?_ _)))⟩

set_option maxRecDepth 100000 in
set_option maxHeartbeats 6400000 in
theorem apart6_out (s t : ByteArray) (ra da rb db tk by' : Int) (hf : ftB s ra da tk = false ∨ ftB s ra da tk = true ∧ (ftB t rb db tk = false ∨ ftB t rb db tk = true ∧ (by' < 0 ∨ 720 ≤ by'))) (w : World) :
    Calls Try.prog 6 #[.agg #[.string s, .int .i64 ra, .int .i64 da], .agg #[.string t, .int .i64 rb, .int .i64 db], .int .i64 tk, .int .i64 by'] w fun x w' => x = .returned (.bool true) ∧ Below w.heap.size w w' := by
  have A1 := fun w => law6_fit s ra da tk w
  have A2 := fun w => law6_fit t rb db tk w
  have AL := fun w => law6_alive w
  rcases hf with h | ⟨h, h' | ⟨h', h'' | h''⟩⟩
  · rw [h] at A1
    clear h A2
    have dAl := dAl; have dSt := dSt; have xC := ext_cell; have xF := ext_frozen; have xS := ext_set; have xN := ext_drewN; have xD := ext_drew; have xL := ext_lt; have xE := ext_ne; have xG := ext_nr; have xX := ext_ext; have xL1 := ext_lt1; have xL2 := ext_lt2; have xL3 := ext_lt3; have xM0 := ext_le0; have xM1 := ext_le1; have xM2 := ext_le2
    go_enter Try.func6, Try.ntmps6
    go_wp2_with fail
    with_reducible refine (A1 _).mono ?_
    rintro e v1 ⟨rfl, hb1⟩
    have zz1 := hb1.size
    try simp [ext_size] at zz1
    have hB1 : Below w.heap.size w v1 := Below.trans (by (repeat (first | with_reducible exact b0 _ | (with_reducible refine bext ?_ _ _) | (with_reducible refine below_drewN ?_ _) | (with_reducible refine Below.drew ?_) | (with_reducible refine bal ?_ _)))) (hb1.mono (by first | omega | (simp [ext_size]; try omega)))
    have zw1 := hB1.size
    clear hb1
    go_wp2_with fail
    with_reducible refine (AL _).mono ?_
    rintro e v2 ⟨rfl, hb2⟩
    have zz2 := hb2.size
    try simp [ext_size] at zz2
    have hB2 : Below w.heap.size w v2 := Below.trans (by (repeat (first | with_reducible exact hB1 | (with_reducible refine bext ?_ _ _) | (with_reducible refine below_drewN ?_ _) | (with_reducible refine Below.drew ?_) | (with_reducible refine bal ?_ _) | (with_reducible refine bset ?_ (by first | omega | (simp <;> omega)) _)))) (hb2.mono (by first | omega | (simp [ext_size]; try omega)))
    have zw2 := hB2.size
    clear hb2
    clear zz1 zw1 hB1
    go_wp2
    go_ret
    exact ⟨rfl, by (repeat (first | with_reducible exact hB2 | (with_reducible refine bext ?_ _ _) | (with_reducible refine below_drewN ?_ _) | (with_reducible refine Below.drew ?_) | (with_reducible refine bal ?_ _) | (with_reducible refine bset ?_ (by first | omega | (simp <;> omega)) _)))⟩
  · rw [h] at A1
    rw [h'] at A2
    clear h h'
    have dAl := dAl; have dSt := dSt; have xC := ext_cell; have xF := ext_frozen; have xS := ext_set; have xN := ext_drewN; have xD := ext_drew; have xL := ext_lt; have xE := ext_ne; have xG := ext_nr; have xX := ext_ext; have xL1 := ext_lt1; have xL2 := ext_lt2; have xL3 := ext_lt3; have xM0 := ext_le0; have xM1 := ext_le1; have xM2 := ext_le2
    go_enter Try.func6, Try.ntmps6
    go_wp2_with fail
    with_reducible refine (A1 _).mono ?_
    rintro e v1 ⟨rfl, hb1⟩
    have zz1 := hb1.size
    try simp [ext_size] at zz1
    have cc1_0 : v1.cell? ⟨w.heap.size + 1, 0, none⟩ = some (.string t) := (hb1.cell (p := ⟨w.heap.size + 1, 0, none⟩) (by first | omega | (simp [ext_size]; try omega))).trans (by (simp (maxDischargeDepth := 8) [go_sem, World.cell?_alloc_past, ltk2, ltk3, ltk4, ltk5, ltk6, ltk7, ltk8, ltk9, *]))
    have cc1_1 : v1.cell? ⟨w.heap.size + 1, 1, none⟩ = some (.int .i64 rb) := (hb1.cell (p := ⟨w.heap.size + 1, 1, none⟩) (by first | omega | (simp [ext_size]; try omega))).trans (by (simp (maxDischargeDepth := 8) [go_sem, World.cell?_alloc_past, ltk2, ltk3, ltk4, ltk5, ltk6, ltk7, ltk8, ltk9, *]))
    have cc1_2 : v1.cell? ⟨w.heap.size + 1, 2, none⟩ = some (.int .i64 db) := (hb1.cell (p := ⟨w.heap.size + 1, 2, none⟩) (by first | omega | (simp [ext_size]; try omega))).trans (by (simp (maxDischargeDepth := 8) [go_sem, World.cell?_alloc_past, ltk2, ltk3, ltk4, ltk5, ltk6, ltk7, ltk8, ltk9, *]))
    have zl1_0 : w.heap.size + 1 < v1.heap.size := by omega
    have hB1 : Below w.heap.size w v1 := Below.trans (by (repeat (first | with_reducible exact b0 _ | (with_reducible refine bext ?_ _ _) | (with_reducible refine below_drewN ?_ _) | (with_reducible refine Below.drew ?_) | (with_reducible refine bal ?_ _)))) (hb1.mono (by first | omega | (simp [ext_size]; try omega)))
    have zw1 := hB1.size
    clear hb1
    go_wp2_with fail
    with_reducible refine (A2 _).mono ?_
    rintro e v2 ⟨rfl, hb2⟩
    have zz2 := hb2.size
    try simp [ext_size] at zz2
    have cc2_0 : v2.cell? ⟨w.heap.size + 1, 0, none⟩ = some (.string t) := (hb2.cell (p := ⟨w.heap.size + 1, 0, none⟩) (by first | omega | (simp [ext_size]; try omega))).trans (by (simp (maxDischargeDepth := 8) [go_sem, World.cell?_alloc_past, ltk2, ltk3, ltk4, ltk5, ltk6, ltk7, ltk8, ltk9, *]))
    have cc2_1 : v2.cell? ⟨w.heap.size + 1, 1, none⟩ = some (.int .i64 rb) := (hb2.cell (p := ⟨w.heap.size + 1, 1, none⟩) (by first | omega | (simp [ext_size]; try omega))).trans (by (simp (maxDischargeDepth := 8) [go_sem, World.cell?_alloc_past, ltk2, ltk3, ltk4, ltk5, ltk6, ltk7, ltk8, ltk9, *]))
    have cc2_2 : v2.cell? ⟨w.heap.size + 1, 2, none⟩ = some (.int .i64 db) := (hb2.cell (p := ⟨w.heap.size + 1, 2, none⟩) (by first | omega | (simp [ext_size]; try omega))).trans (by (simp (maxDischargeDepth := 8) [go_sem, World.cell?_alloc_past, ltk2, ltk3, ltk4, ltk5, ltk6, ltk7, ltk8, ltk9, *]))
    have zl2_0 : w.heap.size + 1 < v2.heap.size := by omega
    have hB2 : Below w.heap.size w v2 := Below.trans (by (repeat (first | with_reducible exact hB1 | (with_reducible refine bext ?_ _ _) | (with_reducible refine below_drewN ?_ _) | (with_reducible refine Below.drew ?_) | (with_reducible refine bal ?_ _) | (with_reducible refine bset ?_ (by first | omega | (simp <;> omega)) _)))) (hb2.mono (by first | omega | (simp [ext_size]; try omega)))
    have zw2 := hB2.size
    clear hb2
    clear cc1_0 cc1_1 cc1_2 zl1_0 zz1 zw1 hB1
    go_wp2_with fail
    with_reducible refine (AL _).mono ?_
    rintro e v3 ⟨rfl, hb3⟩
    have zz3 := hb3.size
    try simp [ext_size] at zz3
    have hB3 : Below w.heap.size w v3 := Below.trans (by (repeat (first | with_reducible exact hB2 | (with_reducible refine bext ?_ _ _) | (with_reducible refine below_drewN ?_ _) | (with_reducible refine Below.drew ?_) | (with_reducible refine bal ?_ _) | (with_reducible refine bset ?_ (by first | omega | (simp <;> omega)) _)))) (hb3.mono (by first | omega | (simp [ext_size]; try omega)))
    have zw3 := hB3.size
    clear hb3
    clear cc2_0 cc2_1 cc2_2 zl2_0 zz2 zw2 hB2
    go_wp2
    go_ret
    exact ⟨rfl, by (repeat (first | with_reducible exact hB3 | (with_reducible refine bext ?_ _ _) | (with_reducible refine below_drewN ?_ _) | (with_reducible refine Below.drew ?_) | (with_reducible refine bal ?_ _) | (with_reducible refine bset ?_ (by first | omega | (simp <;> omega)) _)))⟩
  · rw [h] at A1
    rw [h'] at A2
    clear h h'
    have g1 : (by' < 0) = True := eq_true h''
    have dAl := dAl; have dSt := dSt; have xC := ext_cell; have xF := ext_frozen; have xS := ext_set; have xN := ext_drewN; have xD := ext_drew; have xL := ext_lt; have xE := ext_ne; have xG := ext_nr; have xX := ext_ext; have xL1 := ext_lt1; have xL2 := ext_lt2; have xL3 := ext_lt3; have xM0 := ext_le0; have xM1 := ext_le1; have xM2 := ext_le2
    go_enter Try.func6, Try.ntmps6
    go_wp2_with fail
    with_reducible refine (A1 _).mono ?_
    rintro e v1 ⟨rfl, hb1⟩
    have zz1 := hb1.size
    try simp [ext_size] at zz1
    have cc1_0 : v1.cell? ⟨w.heap.size + 1, 0, none⟩ = some (.string t) := (hb1.cell (p := ⟨w.heap.size + 1, 0, none⟩) (by first | omega | (simp [ext_size]; try omega))).trans (by (simp (maxDischargeDepth := 8) [go_sem, World.cell?_alloc_past, ltk2, ltk3, ltk4, ltk5, ltk6, ltk7, ltk8, ltk9, *]))
    have cc1_1 : v1.cell? ⟨w.heap.size + 1, 1, none⟩ = some (.int .i64 rb) := (hb1.cell (p := ⟨w.heap.size + 1, 1, none⟩) (by first | omega | (simp [ext_size]; try omega))).trans (by (simp (maxDischargeDepth := 8) [go_sem, World.cell?_alloc_past, ltk2, ltk3, ltk4, ltk5, ltk6, ltk7, ltk8, ltk9, *]))
    have cc1_2 : v1.cell? ⟨w.heap.size + 1, 2, none⟩ = some (.int .i64 db) := (hb1.cell (p := ⟨w.heap.size + 1, 2, none⟩) (by first | omega | (simp [ext_size]; try omega))).trans (by (simp (maxDischargeDepth := 8) [go_sem, World.cell?_alloc_past, ltk2, ltk3, ltk4, ltk5, ltk6, ltk7, ltk8, ltk9, *]))
    have zl1_0 : w.heap.size + 1 < v1.heap.size := by omega
    have hB1 : Below w.heap.size w v1 := Below.trans (by (repeat (first | with_reducible exact b0 _ | (with_reducible refine bext ?_ _ _) | (with_reducible refine below_drewN ?_ _) | (with_reducible refine Below.drew ?_) | (with_reducible refine bal ?_ _)))) (hb1.mono (by first | omega | (simp [ext_size]; try omega)))
    have zw1 := hB1.size
    clear hb1
    go_wp2_with fail
    with_reducible refine (A2 _).mono ?_
    rintro e v2 ⟨rfl, hb2⟩
    have zz2 := hb2.size
    try simp [ext_size] at zz2
    have cc2_0 : v2.cell? ⟨w.heap.size + 1, 0, none⟩ = some (.string t) := (hb2.cell (p := ⟨w.heap.size + 1, 0, none⟩) (by first | omega | (simp [ext_size]; try omega))).trans (by (simp (maxDischargeDepth := 8) [go_sem, World.cell?_alloc_past, ltk2, ltk3, ltk4, ltk5, ltk6, ltk7, ltk8, ltk9, *]))
    have cc2_1 : v2.cell? ⟨w.heap.size + 1, 1, none⟩ = some (.int .i64 rb) := (hb2.cell (p := ⟨w.heap.size + 1, 1, none⟩) (by first | omega | (simp [ext_size]; try omega))).trans (by (simp (maxDischargeDepth := 8) [go_sem, World.cell?_alloc_past, ltk2, ltk3, ltk4, ltk5, ltk6, ltk7, ltk8, ltk9, *]))
    have cc2_2 : v2.cell? ⟨w.heap.size + 1, 2, none⟩ = some (.int .i64 db) := (hb2.cell (p := ⟨w.heap.size + 1, 2, none⟩) (by first | omega | (simp [ext_size]; try omega))).trans (by (simp (maxDischargeDepth := 8) [go_sem, World.cell?_alloc_past, ltk2, ltk3, ltk4, ltk5, ltk6, ltk7, ltk8, ltk9, *]))
    have zl2_0 : w.heap.size + 1 < v2.heap.size := by omega
    have hB2 : Below w.heap.size w v2 := Below.trans (by (repeat (first | with_reducible exact hB1 | (with_reducible refine bext ?_ _ _) | (with_reducible refine below_drewN ?_ _) | (with_reducible refine Below.drew ?_) | (with_reducible refine bal ?_ _) | (with_reducible refine bset ?_ (by first | omega | (simp <;> omega)) _)))) (hb2.mono (by first | omega | (simp [ext_size]; try omega)))
    have zw2 := hB2.size
    clear hb2
    clear cc1_0 cc1_1 cc1_2 zl1_0 zz1 zw1 hB1
    go_wp2_with fail
    with_reducible refine (AL _).mono ?_
    rintro e v3 ⟨rfl, hb3⟩
    have zz3 := hb3.size
    try simp [ext_size] at zz3
    have hB3 : Below w.heap.size w v3 := Below.trans (by (repeat (first | with_reducible exact hB2 | (with_reducible refine bext ?_ _ _) | (with_reducible refine below_drewN ?_ _) | (with_reducible refine Below.drew ?_) | (with_reducible refine bal ?_ _) | (with_reducible refine bset ?_ (by first | omega | (simp <;> omega)) _)))) (hb3.mono (by first | omega | (simp [ext_size]; try omega)))
    have zw3 := hB3.size
    clear hb3
    clear cc2_0 cc2_1 cc2_2 zl2_0 zz2 zw2 hB2
    go_wp2
    go_ret
    exact ⟨rfl, by (repeat (first | with_reducible exact hB3 | (with_reducible refine bext ?_ _ _) | (with_reducible refine below_drewN ?_ _) | (with_reducible refine Below.drew ?_) | (with_reducible refine bal ?_ _) | (with_reducible refine bset ?_ (by first | omega | (simp <;> omega)) _)))⟩
  · rw [h] at A1
    rw [h'] at A2
    clear h h'
    have g1 : (by' < 0) = False := by simp; omega
    have g2 : (720 ≤ by') = True := eq_true h''
    have dAl := dAl; have dSt := dSt; have xC := ext_cell; have xF := ext_frozen; have xS := ext_set; have xN := ext_drewN; have xD := ext_drew; have xL := ext_lt; have xE := ext_ne; have xG := ext_nr; have xX := ext_ext; have xL1 := ext_lt1; have xL2 := ext_lt2; have xL3 := ext_lt3; have xM0 := ext_le0; have xM1 := ext_le1; have xM2 := ext_le2
    go_enter Try.func6, Try.ntmps6
    go_wp2_with fail
    with_reducible refine (A1 _).mono ?_
    rintro e v1 ⟨rfl, hb1⟩
    have zz1 := hb1.size
    try simp [ext_size] at zz1
    have cc1_0 : v1.cell? ⟨w.heap.size + 1, 0, none⟩ = some (.string t) := (hb1.cell (p := ⟨w.heap.size + 1, 0, none⟩) (by first | omega | (simp [ext_size]; try omega))).trans (by (simp (maxDischargeDepth := 8) [go_sem, World.cell?_alloc_past, ltk2, ltk3, ltk4, ltk5, ltk6, ltk7, ltk8, ltk9, *]))
    have cc1_1 : v1.cell? ⟨w.heap.size + 1, 1, none⟩ = some (.int .i64 rb) := (hb1.cell (p := ⟨w.heap.size + 1, 1, none⟩) (by first | omega | (simp [ext_size]; try omega))).trans (by (simp (maxDischargeDepth := 8) [go_sem, World.cell?_alloc_past, ltk2, ltk3, ltk4, ltk5, ltk6, ltk7, ltk8, ltk9, *]))
    have cc1_2 : v1.cell? ⟨w.heap.size + 1, 2, none⟩ = some (.int .i64 db) := (hb1.cell (p := ⟨w.heap.size + 1, 2, none⟩) (by first | omega | (simp [ext_size]; try omega))).trans (by (simp (maxDischargeDepth := 8) [go_sem, World.cell?_alloc_past, ltk2, ltk3, ltk4, ltk5, ltk6, ltk7, ltk8, ltk9, *]))
    have zl1_0 : w.heap.size + 1 < v1.heap.size := by omega
    have hB1 : Below w.heap.size w v1 := Below.trans (by (repeat (first | with_reducible exact b0 _ | (with_reducible refine bext ?_ _ _) | (with_reducible refine below_drewN ?_ _) | (with_reducible refine Below.drew ?_) | (with_reducible refine bal ?_ _)))) (hb1.mono (by first | omega | (simp [ext_size]; try omega)))
    have zw1 := hB1.size
    clear hb1
    go_wp2_with fail
    with_reducible refine (A2 _).mono ?_
    rintro e v2 ⟨rfl, hb2⟩
    have zz2 := hb2.size
    try simp [ext_size] at zz2
    have cc2_0 : v2.cell? ⟨w.heap.size + 1, 0, none⟩ = some (.string t) := (hb2.cell (p := ⟨w.heap.size + 1, 0, none⟩) (by first | omega | (simp [ext_size]; try omega))).trans (by (simp (maxDischargeDepth := 8) [go_sem, World.cell?_alloc_past, ltk2, ltk3, ltk4, ltk5, ltk6, ltk7, ltk8, ltk9, *]))
    have cc2_1 : v2.cell? ⟨w.heap.size + 1, 1, none⟩ = some (.int .i64 rb) := (hb2.cell (p := ⟨w.heap.size + 1, 1, none⟩) (by first | omega | (simp [ext_size]; try omega))).trans (by (simp (maxDischargeDepth := 8) [go_sem, World.cell?_alloc_past, ltk2, ltk3, ltk4, ltk5, ltk6, ltk7, ltk8, ltk9, *]))
    have cc2_2 : v2.cell? ⟨w.heap.size + 1, 2, none⟩ = some (.int .i64 db) := (hb2.cell (p := ⟨w.heap.size + 1, 2, none⟩) (by first | omega | (simp [ext_size]; try omega))).trans (by (simp (maxDischargeDepth := 8) [go_sem, World.cell?_alloc_past, ltk2, ltk3, ltk4, ltk5, ltk6, ltk7, ltk8, ltk9, *]))
    have zl2_0 : w.heap.size + 1 < v2.heap.size := by omega
    have hB2 : Below w.heap.size w v2 := Below.trans (by (repeat (first | with_reducible exact hB1 | (with_reducible refine bext ?_ _ _) | (with_reducible refine below_drewN ?_ _) | (with_reducible refine Below.drew ?_) | (with_reducible refine bal ?_ _) | (with_reducible refine bset ?_ (by first | omega | (simp <;> omega)) _)))) (hb2.mono (by first | omega | (simp [ext_size]; try omega)))
    have zw2 := hB2.size
    clear hb2
    clear cc1_0 cc1_1 cc1_2 zl1_0 zz1 zw1 hB1
    go_wp2_with fail
    with_reducible refine (AL _).mono ?_
    rintro e v3 ⟨rfl, hb3⟩
    have zz3 := hb3.size
    try simp [ext_size] at zz3
    have hB3 : Below w.heap.size w v3 := Below.trans (by (repeat (first | with_reducible exact hB2 | (with_reducible refine bext ?_ _ _) | (with_reducible refine below_drewN ?_ _) | (with_reducible refine Below.drew ?_) | (with_reducible refine bal ?_ _) | (with_reducible refine bset ?_ (by first | omega | (simp <;> omega)) _)))) (hb3.mono (by first | omega | (simp [ext_size]; try omega)))
    have zw3 := hB3.size
    clear hb3
    clear cc2_0 cc2_1 cc2_2 zl2_0 zz2 zw2 hB2
    go_wp2
    go_ret
    exact ⟨rfl, by (repeat (first | with_reducible exact hB3 | (with_reducible refine bext ?_ _ _) | (with_reducible refine below_drewN ?_ _) | (with_reducible refine Below.drew ?_) | (with_reducible refine bal ?_ _) | (with_reducible refine bset ?_ (by first | omega | (simp <;> omega)) _)))⟩

set_option maxRecDepth 100000 in
set_option maxHeartbeats 6400000 in
theorem apart6_main (s t : ByteArray) (ra da rb db tk by' : Int) (hf : ftB s ra da tk = true) (hg : ftB t rb db tk = true) (y1 : ¬ by' < 0) (y2 : ¬ 720 ≤ by') (w : World) :
    Calls Try.prog 6 #[.agg #[.string s, .int .i64 ra, .int .i64 da], .agg #[.string t, .int .i64 rb, .int .i64 db], .int .i64 tk, .int .i64 by'] w fun x w' => x = .returned (.bool true) ∧ Below w.heap.size w w' := by
  obtain ⟨_, h1, t1, t2⟩ := ftB_out2 hf
  obtain ⟨_, h2, _, _⟩ := ftB_out2 hg
  obtain ⟨_, n2, n3, n4, n5⟩ := srE_ok h1
  obtain ⟨_, m2, m3, m4, m5⟩ := srE_ok h2
  have hk := tk_in2 t1 t2
  have AL := fun w => law6_alive w
  have A1 := fun w => law6_fit s ra da tk w
  rw [hf] at A1
  have A2 := fun w => law6_fit t rb db tk w
  rw [hg] at A2
  have A3 := fun w => track_At_ok s ra da tk h1 hk w
  have A4 := fun w => track_At_ok t rb db tk h2 hk w
  obtain ⟨L1, H1, L2, H2, q1, q2, l1, l2⟩ := apart_common da db (ra - tk) (rb - tk) (ra - rb) (by omega)
  obtain ⟨_, _, ua1, ua2⟩ := d_unit da (ra - tk)
  obtain ⟨_, _, ub1, ub2⟩ := d_unit db (rb - tk)
  have ua3 := (c_unit da).2
  have ub3 := (c_unit db).2
  have A5 := fun w => track_Dot (dxL da (ra - tk)) (dxH da (ra - tk)) (dyL da (ra - tk)) (dyH da (ra - tk)) (sL da) (sH da) (dxL db (rb - tk)) (dxH db (rb - tk)) (dyL db (rb - tk)) (dyH db (rb - tk)) (sL db) (sH db) L1 H1 0
    ⟨sp_of ua1.1 (by have := ua1.2.1; omega) (by have := ua1.2.2; omega), sp_of ua2.1 (by have := ua2.2.1; omega) (by have := ua2.2.2; omega), sp_of ua3.1 (by have := ua3.2.1; omega) (by have := ua3.2.2; omega)⟩
    ⟨sp_of ub1.1 (by have := ub1.2.1; omega) (by have := ub1.2.2; omega), sp_of ub2.1 (by have := ub2.2.1; omega) (by have := ub2.2.2; omega), sp_of ub3.1 (by have := ub3.2.1; omega) (by have := ub3.2.2; omega)⟩ q1 w
  have A6 := fun w => track_Apart_ok s t ra da rb db L2 H2 0 h1 h2 q2 w
  have A7 := fun w => track_Apart_ok t s rb db ra da L2 H2 0 h2 h1 (by rw [apart_sym]; exact q2) w
  obtain ⟨r1, r2, r3, r4, r5, r6⟩ := apart_turn ra rb by' n2 n3 m2 m3 (by omega) (by omega)
  have A8 := fun w => track_Apart_ok s t ((ra + by').tmod 720) da ((rb + by').tmod 720) db L2 H2 0 (srE_turn h1 r3 r4) (srE_turn h2 r5 r6) (by rw [r1, r2]; exact q2) w
  have A9 := fun w => ref6_Common L1 H1 L2 H2 w
  rw [decide_eq_true (And.intro l1 l2)] at A9
  clear r1 r2 q1 q2 l1 l2 ua1 ua2 ua3 ub1 ub2 ub3 hf hg hk h1 h2
  generalize dxL da (ra - tk) = x0 at *
  generalize dxH da (ra - tk) = x1 at *
  generalize dyL da (ra - tk) = x2 at *
  generalize dyH da (ra - tk) = x3 at *
  generalize sL da = x4 at *
  generalize sH da = x5 at *
  generalize dxL db (rb - tk) = z0 at *
  generalize dxH db (rb - tk) = z1 at *
  generalize dyL db (rb - tk) = z2 at *
  generalize dyH db (rb - tk) = z3 at *
  generalize sL db = z4 at *
  generalize sH db = z5 at *
  have g1 : (by' < 0) = False := eq_false y1
  have g2 : (720 ≤ by') = False := eq_false y2
  have w1 : -9223372036854775808 ≤ ra + by' := by omega
  have w2 : ra + by' ≤ 9223372036854775807 := by omega
  have w3 : -9223372036854775808 ≤ rb + by' := by omega
  have w4 : rb + by' ≤ 9223372036854775807 := by omega
  obtain ⟨p, hp⟩ : ∃ p, (ra + by').tmod 720 = p := ⟨_, rfl⟩
  obtain ⟨q, hq⟩ : ∃ q, (rb + by').tmod 720 = q := ⟨_, rfl⟩
  rw [hp, hq] at A8
  rw [hp] at r3 r4
  rw [hq] at r5 r6
  clear n2 n3 n4 n5 m2 m3 m4 m5 y1 y2
  have dAl := dAl; have dSt := dSt; have xC := ext_cell; have xF := ext_frozen; have xS := ext_set; have xN := ext_drewN; have xD := ext_drew; have xL := ext_lt; have xE := ext_ne; have xG := ext_nr; have xX := ext_ext; have xL1 := ext_lt1; have xL2 := ext_lt2; have xL3 := ext_lt3; have xM0 := ext_le0; have xM1 := ext_le1; have xM2 := ext_le2
  go_enter Try.func6, Try.ntmps6
  go_wp2_with fail
  with_reducible refine (A1 _).mono ?_
  rintro e v1 ⟨rfl, hb1⟩
  have zz1 := hb1.size
  try simp [ext_size] at zz1
  have cc1_0 : v1.cell? ⟨w.heap.size, 0, none⟩ = some (.string s) := (hb1.cell (p := ⟨w.heap.size, 0, none⟩) (by first | omega | (simp [ext_size]; try omega))).trans (by (simp (maxDischargeDepth := 8) [go_sem, World.cell?_alloc_past, ltk2, ltk3, ltk4, ltk5, ltk6, ltk7, ltk8, ltk9, *]))
  have cc1_1 : v1.cell? ⟨w.heap.size, 1, none⟩ = some (.int .i64 ra) := (hb1.cell (p := ⟨w.heap.size, 1, none⟩) (by first | omega | (simp [ext_size]; try omega))).trans (by (simp (maxDischargeDepth := 8) [go_sem, World.cell?_alloc_past, ltk2, ltk3, ltk4, ltk5, ltk6, ltk7, ltk8, ltk9, *]))
  have cc1_2 : v1.cell? ⟨w.heap.size, 2, none⟩ = some (.int .i64 da) := (hb1.cell (p := ⟨w.heap.size, 2, none⟩) (by first | omega | (simp [ext_size]; try omega))).trans (by (simp (maxDischargeDepth := 8) [go_sem, World.cell?_alloc_past, ltk2, ltk3, ltk4, ltk5, ltk6, ltk7, ltk8, ltk9, *]))
  have cc1_3 : v1.cell? ⟨w.heap.size + 1, 0, none⟩ = some (.string t) := (hb1.cell (p := ⟨w.heap.size + 1, 0, none⟩) (by first | omega | (simp [ext_size]; try omega))).trans (by (simp (maxDischargeDepth := 8) [go_sem, World.cell?_alloc_past, ltk2, ltk3, ltk4, ltk5, ltk6, ltk7, ltk8, ltk9, *]))
  have cc1_4 : v1.cell? ⟨w.heap.size + 1, 1, none⟩ = some (.int .i64 rb) := (hb1.cell (p := ⟨w.heap.size + 1, 1, none⟩) (by first | omega | (simp [ext_size]; try omega))).trans (by (simp (maxDischargeDepth := 8) [go_sem, World.cell?_alloc_past, ltk2, ltk3, ltk4, ltk5, ltk6, ltk7, ltk8, ltk9, *]))
  have cc1_5 : v1.cell? ⟨w.heap.size + 1, 2, none⟩ = some (.int .i64 db) := (hb1.cell (p := ⟨w.heap.size + 1, 2, none⟩) (by first | omega | (simp [ext_size]; try omega))).trans (by (simp (maxDischargeDepth := 8) [go_sem, World.cell?_alloc_past, ltk2, ltk3, ltk4, ltk5, ltk6, ltk7, ltk8, ltk9, *]))
  have cf1_0 : v1.frozen? ⟨w.heap.size, 1, none⟩ = false := (hb1.frozen (p := ⟨w.heap.size, 1, none⟩) (by first | omega | (simp [ext_size]; try omega))).trans (by (simp (maxDischargeDepth := 8) [go_sem, World.cell?_alloc_past, ltk2, ltk3, ltk4, ltk5, ltk6, ltk7, ltk8, ltk9, *]))
  have cf1_1 : v1.frozen? ⟨w.heap.size + 1, 1, none⟩ = false := (hb1.frozen (p := ⟨w.heap.size + 1, 1, none⟩) (by first | omega | (simp [ext_size]; try omega))).trans (by (simp (maxDischargeDepth := 8) [go_sem, World.cell?_alloc_past, ltk2, ltk3, ltk4, ltk5, ltk6, ltk7, ltk8, ltk9, *]))
  have zl1_0 : w.heap.size < v1.heap.size := by omega
  have zl1_1 : w.heap.size + 1 < v1.heap.size := by omega
  have hB1 : Below w.heap.size w v1 := Below.trans (by (repeat (first | with_reducible exact b0 _ | (with_reducible refine bext ?_ _ _) | (with_reducible refine below_drewN ?_ _) | (with_reducible refine Below.drew ?_) | (with_reducible refine bal ?_ _)))) (hb1.mono (by first | omega | (simp [ext_size]; try omega)))
  have zw1 := hB1.size
  clear hb1
  go_wp2_with fail
  with_reducible refine (A2 _).mono ?_
  rintro e v2 ⟨rfl, hb2⟩
  have zz2 := hb2.size
  try simp [ext_size] at zz2
  have cc2_0 : v2.cell? ⟨w.heap.size, 0, none⟩ = some (.string s) := (hb2.cell (p := ⟨w.heap.size, 0, none⟩) (by first | omega | (simp [ext_size]; try omega))).trans (by (simp (maxDischargeDepth := 8) [go_sem, World.cell?_alloc_past, ltk2, ltk3, ltk4, ltk5, ltk6, ltk7, ltk8, ltk9, *]))
  have cc2_1 : v2.cell? ⟨w.heap.size, 1, none⟩ = some (.int .i64 ra) := (hb2.cell (p := ⟨w.heap.size, 1, none⟩) (by first | omega | (simp [ext_size]; try omega))).trans (by (simp (maxDischargeDepth := 8) [go_sem, World.cell?_alloc_past, ltk2, ltk3, ltk4, ltk5, ltk6, ltk7, ltk8, ltk9, *]))
  have cc2_2 : v2.cell? ⟨w.heap.size, 2, none⟩ = some (.int .i64 da) := (hb2.cell (p := ⟨w.heap.size, 2, none⟩) (by first | omega | (simp [ext_size]; try omega))).trans (by (simp (maxDischargeDepth := 8) [go_sem, World.cell?_alloc_past, ltk2, ltk3, ltk4, ltk5, ltk6, ltk7, ltk8, ltk9, *]))
  have cc2_3 : v2.cell? ⟨w.heap.size + 1, 0, none⟩ = some (.string t) := (hb2.cell (p := ⟨w.heap.size + 1, 0, none⟩) (by first | omega | (simp [ext_size]; try omega))).trans (by (simp (maxDischargeDepth := 8) [go_sem, World.cell?_alloc_past, ltk2, ltk3, ltk4, ltk5, ltk6, ltk7, ltk8, ltk9, *]))
  have cc2_4 : v2.cell? ⟨w.heap.size + 1, 1, none⟩ = some (.int .i64 rb) := (hb2.cell (p := ⟨w.heap.size + 1, 1, none⟩) (by first | omega | (simp [ext_size]; try omega))).trans (by (simp (maxDischargeDepth := 8) [go_sem, World.cell?_alloc_past, ltk2, ltk3, ltk4, ltk5, ltk6, ltk7, ltk8, ltk9, *]))
  have cc2_5 : v2.cell? ⟨w.heap.size + 1, 2, none⟩ = some (.int .i64 db) := (hb2.cell (p := ⟨w.heap.size + 1, 2, none⟩) (by first | omega | (simp [ext_size]; try omega))).trans (by (simp (maxDischargeDepth := 8) [go_sem, World.cell?_alloc_past, ltk2, ltk3, ltk4, ltk5, ltk6, ltk7, ltk8, ltk9, *]))
  have cf2_0 : v2.frozen? ⟨w.heap.size, 1, none⟩ = false := (hb2.frozen (p := ⟨w.heap.size, 1, none⟩) (by first | omega | (simp [ext_size]; try omega))).trans (by (simp (maxDischargeDepth := 8) [go_sem, World.cell?_alloc_past, ltk2, ltk3, ltk4, ltk5, ltk6, ltk7, ltk8, ltk9, *]))
  have cf2_1 : v2.frozen? ⟨w.heap.size + 1, 1, none⟩ = false := (hb2.frozen (p := ⟨w.heap.size + 1, 1, none⟩) (by first | omega | (simp [ext_size]; try omega))).trans (by (simp (maxDischargeDepth := 8) [go_sem, World.cell?_alloc_past, ltk2, ltk3, ltk4, ltk5, ltk6, ltk7, ltk8, ltk9, *]))
  have zl2_0 : w.heap.size < v2.heap.size := by omega
  have zl2_1 : w.heap.size + 1 < v2.heap.size := by omega
  have hB2 : Below w.heap.size w v2 := Below.trans (by (repeat (first | with_reducible exact hB1 | (with_reducible refine bext ?_ _ _) | (with_reducible refine below_drewN ?_ _) | (with_reducible refine Below.drew ?_) | (with_reducible refine bal ?_ _) | (with_reducible refine bset ?_ (by first | omega | (simp <;> omega)) _)))) (hb2.mono (by first | omega | (simp [ext_size]; try omega)))
  have zw2 := hB2.size
  clear hb2
  clear cc1_0 cc1_1 cc1_2 cc1_3 cc1_4 cc1_5 cf1_0 cf1_1 zl1_0 zl1_1 zz1 zw1 hB1
  go_wp2_with fail
  with_reducible refine (A3 _).mono ?_
  rintro e v3 ⟨rfl, hb3⟩
  have zz3 := hb3.size
  try simp [ext_size] at zz3
  have cc3_0 : v3.cell? ⟨w.heap.size, 0, none⟩ = some (.string s) := (hb3.cell (p := ⟨w.heap.size, 0, none⟩) (by first | omega | (simp [ext_size]; try omega))).trans (by (simp (maxDischargeDepth := 8) [go_sem, World.cell?_alloc_past, ltk2, ltk3, ltk4, ltk5, ltk6, ltk7, ltk8, ltk9, *]))
  have cc3_1 : v3.cell? ⟨w.heap.size, 1, none⟩ = some (.int .i64 ra) := (hb3.cell (p := ⟨w.heap.size, 1, none⟩) (by first | omega | (simp [ext_size]; try omega))).trans (by (simp (maxDischargeDepth := 8) [go_sem, World.cell?_alloc_past, ltk2, ltk3, ltk4, ltk5, ltk6, ltk7, ltk8, ltk9, *]))
  have cc3_2 : v3.cell? ⟨w.heap.size, 2, none⟩ = some (.int .i64 da) := (hb3.cell (p := ⟨w.heap.size, 2, none⟩) (by first | omega | (simp [ext_size]; try omega))).trans (by (simp (maxDischargeDepth := 8) [go_sem, World.cell?_alloc_past, ltk2, ltk3, ltk4, ltk5, ltk6, ltk7, ltk8, ltk9, *]))
  have cc3_3 : v3.cell? ⟨w.heap.size + 1, 0, none⟩ = some (.string t) := (hb3.cell (p := ⟨w.heap.size + 1, 0, none⟩) (by first | omega | (simp [ext_size]; try omega))).trans (by (simp (maxDischargeDepth := 8) [go_sem, World.cell?_alloc_past, ltk2, ltk3, ltk4, ltk5, ltk6, ltk7, ltk8, ltk9, *]))
  have cc3_4 : v3.cell? ⟨w.heap.size + 1, 1, none⟩ = some (.int .i64 rb) := (hb3.cell (p := ⟨w.heap.size + 1, 1, none⟩) (by first | omega | (simp [ext_size]; try omega))).trans (by (simp (maxDischargeDepth := 8) [go_sem, World.cell?_alloc_past, ltk2, ltk3, ltk4, ltk5, ltk6, ltk7, ltk8, ltk9, *]))
  have cc3_5 : v3.cell? ⟨w.heap.size + 1, 2, none⟩ = some (.int .i64 db) := (hb3.cell (p := ⟨w.heap.size + 1, 2, none⟩) (by first | omega | (simp [ext_size]; try omega))).trans (by (simp (maxDischargeDepth := 8) [go_sem, World.cell?_alloc_past, ltk2, ltk3, ltk4, ltk5, ltk6, ltk7, ltk8, ltk9, *]))
  have cf3_0 : v3.frozen? ⟨w.heap.size, 1, none⟩ = false := (hb3.frozen (p := ⟨w.heap.size, 1, none⟩) (by first | omega | (simp [ext_size]; try omega))).trans (by (simp (maxDischargeDepth := 8) [go_sem, World.cell?_alloc_past, ltk2, ltk3, ltk4, ltk5, ltk6, ltk7, ltk8, ltk9, *]))
  have cf3_1 : v3.frozen? ⟨w.heap.size + 1, 1, none⟩ = false := (hb3.frozen (p := ⟨w.heap.size + 1, 1, none⟩) (by first | omega | (simp [ext_size]; try omega))).trans (by (simp (maxDischargeDepth := 8) [go_sem, World.cell?_alloc_past, ltk2, ltk3, ltk4, ltk5, ltk6, ltk7, ltk8, ltk9, *]))
  have zl3_0 : w.heap.size < v3.heap.size := by omega
  have zl3_1 : w.heap.size + 1 < v3.heap.size := by omega
  have hB3 : Below w.heap.size w v3 := Below.trans (by (repeat (first | with_reducible exact hB2 | (with_reducible refine bext ?_ _ _) | (with_reducible refine below_drewN ?_ _) | (with_reducible refine Below.drew ?_) | (with_reducible refine bal ?_ _) | (with_reducible refine bset ?_ (by first | omega | (simp <;> omega)) _)))) (hb3.mono (by first | omega | (simp [ext_size]; try omega)))
  have zw3 := hB3.size
  clear hb3
  clear cc2_0 cc2_1 cc2_2 cc2_3 cc2_4 cc2_5 cf2_0 cf2_1 zl2_0 zl2_1 zz2 zw2 hB2
  go_wp2_with fail
  with_reducible refine (A4 _).mono ?_
  rintro e v4 ⟨rfl, hb4⟩
  have zz4 := hb4.size
  try simp [ext_size] at zz4
  have cc4_0 : v4.cell? ⟨w.heap.size, 0, none⟩ = some (.string s) := (hb4.cell (p := ⟨w.heap.size, 0, none⟩) (by first | omega | (simp [ext_size]; try omega))).trans (by (simp (maxDischargeDepth := 8) [go_sem, World.cell?_alloc_past, ltk2, ltk3, ltk4, ltk5, ltk6, ltk7, ltk8, ltk9, *]))
  have cc4_1 : v4.cell? ⟨w.heap.size, 1, none⟩ = some (.int .i64 ra) := (hb4.cell (p := ⟨w.heap.size, 1, none⟩) (by first | omega | (simp [ext_size]; try omega))).trans (by (simp (maxDischargeDepth := 8) [go_sem, World.cell?_alloc_past, ltk2, ltk3, ltk4, ltk5, ltk6, ltk7, ltk8, ltk9, *]))
  have cc4_2 : v4.cell? ⟨w.heap.size, 2, none⟩ = some (.int .i64 da) := (hb4.cell (p := ⟨w.heap.size, 2, none⟩) (by first | omega | (simp [ext_size]; try omega))).trans (by (simp (maxDischargeDepth := 8) [go_sem, World.cell?_alloc_past, ltk2, ltk3, ltk4, ltk5, ltk6, ltk7, ltk8, ltk9, *]))
  have cc4_3 : v4.cell? ⟨w.heap.size + 1, 0, none⟩ = some (.string t) := (hb4.cell (p := ⟨w.heap.size + 1, 0, none⟩) (by first | omega | (simp [ext_size]; try omega))).trans (by (simp (maxDischargeDepth := 8) [go_sem, World.cell?_alloc_past, ltk2, ltk3, ltk4, ltk5, ltk6, ltk7, ltk8, ltk9, *]))
  have cc4_4 : v4.cell? ⟨w.heap.size + 1, 1, none⟩ = some (.int .i64 rb) := (hb4.cell (p := ⟨w.heap.size + 1, 1, none⟩) (by first | omega | (simp [ext_size]; try omega))).trans (by (simp (maxDischargeDepth := 8) [go_sem, World.cell?_alloc_past, ltk2, ltk3, ltk4, ltk5, ltk6, ltk7, ltk8, ltk9, *]))
  have cc4_5 : v4.cell? ⟨w.heap.size + 1, 2, none⟩ = some (.int .i64 db) := (hb4.cell (p := ⟨w.heap.size + 1, 2, none⟩) (by first | omega | (simp [ext_size]; try omega))).trans (by (simp (maxDischargeDepth := 8) [go_sem, World.cell?_alloc_past, ltk2, ltk3, ltk4, ltk5, ltk6, ltk7, ltk8, ltk9, *]))
  have cc4_6 : v4.cell? ⟨v3.heap.size, 0, none⟩ = some (.int .i64 x0) := (hb4.cell (p := ⟨v3.heap.size, 0, none⟩) (by first | omega | (simp [ext_size]; try omega))).trans (by (simp (maxDischargeDepth := 8) [go_sem, World.cell?_alloc_past, ltk2, ltk3, ltk4, ltk5, ltk6, ltk7, ltk8, ltk9, *]))
  have cc4_7 : v4.cell? ⟨v3.heap.size, 1, none⟩ = some (.int .i64 x1) := (hb4.cell (p := ⟨v3.heap.size, 1, none⟩) (by first | omega | (simp [ext_size]; try omega))).trans (by (simp (maxDischargeDepth := 8) [go_sem, World.cell?_alloc_past, ltk2, ltk3, ltk4, ltk5, ltk6, ltk7, ltk8, ltk9, *]))
  have cc4_8 : v4.cell? ⟨v3.heap.size, 2, none⟩ = some (.int .i64 x2) := (hb4.cell (p := ⟨v3.heap.size, 2, none⟩) (by first | omega | (simp [ext_size]; try omega))).trans (by (simp (maxDischargeDepth := 8) [go_sem, World.cell?_alloc_past, ltk2, ltk3, ltk4, ltk5, ltk6, ltk7, ltk8, ltk9, *]))
  have cc4_9 : v4.cell? ⟨v3.heap.size, 3, none⟩ = some (.int .i64 x3) := (hb4.cell (p := ⟨v3.heap.size, 3, none⟩) (by first | omega | (simp [ext_size]; try omega))).trans (by (simp (maxDischargeDepth := 8) [go_sem, World.cell?_alloc_past, ltk2, ltk3, ltk4, ltk5, ltk6, ltk7, ltk8, ltk9, *]))
  have cc4_10 : v4.cell? ⟨v3.heap.size, 4, none⟩ = some (.int .i64 x4) := (hb4.cell (p := ⟨v3.heap.size, 4, none⟩) (by first | omega | (simp [ext_size]; try omega))).trans (by (simp (maxDischargeDepth := 8) [go_sem, World.cell?_alloc_past, ltk2, ltk3, ltk4, ltk5, ltk6, ltk7, ltk8, ltk9, *]))
  have cc4_11 : v4.cell? ⟨v3.heap.size, 5, none⟩ = some (.int .i64 x5) := (hb4.cell (p := ⟨v3.heap.size, 5, none⟩) (by first | omega | (simp [ext_size]; try omega))).trans (by (simp (maxDischargeDepth := 8) [go_sem, World.cell?_alloc_past, ltk2, ltk3, ltk4, ltk5, ltk6, ltk7, ltk8, ltk9, *]))
  have cf4_0 : v4.frozen? ⟨w.heap.size, 1, none⟩ = false := (hb4.frozen (p := ⟨w.heap.size, 1, none⟩) (by first | omega | (simp [ext_size]; try omega))).trans (by (simp (maxDischargeDepth := 8) [go_sem, World.cell?_alloc_past, ltk2, ltk3, ltk4, ltk5, ltk6, ltk7, ltk8, ltk9, *]))
  have cf4_1 : v4.frozen? ⟨w.heap.size + 1, 1, none⟩ = false := (hb4.frozen (p := ⟨w.heap.size + 1, 1, none⟩) (by first | omega | (simp [ext_size]; try omega))).trans (by (simp (maxDischargeDepth := 8) [go_sem, World.cell?_alloc_past, ltk2, ltk3, ltk4, ltk5, ltk6, ltk7, ltk8, ltk9, *]))
  have zl4_0 : w.heap.size < v4.heap.size := by omega
  have zl4_1 : w.heap.size + 1 < v4.heap.size := by omega
  have zl4_2 : v3.heap.size < v4.heap.size := by omega
  have hB4 : Below w.heap.size w v4 := Below.trans (by (repeat (first | with_reducible exact hB3 | (with_reducible refine bext ?_ _ _) | (with_reducible refine below_drewN ?_ _) | (with_reducible refine Below.drew ?_) | (with_reducible refine bal ?_ _) | (with_reducible refine bset ?_ (by first | omega | (simp <;> omega)) _)))) (hb4.mono (by first | omega | (simp [ext_size]; try omega)))
  have zw4 := hB4.size
  clear hb4
  clear cc3_0 cc3_1 cc3_2 cc3_3 cc3_4 cc3_5 cf3_0 cf3_1 zl3_0 zl3_1 zz3 zw3 hB3
  go_wp2_with fail
  with_reducible refine (A5 _).mono ?_
  rintro e v5 ⟨rfl, hb5⟩
  have zz5 := hb5.size
  try simp [ext_size] at zz5
  have cc5_0 : v5.cell? ⟨w.heap.size, 0, none⟩ = some (.string s) := (hb5.cell (p := ⟨w.heap.size, 0, none⟩) (by first | omega | (simp [ext_size]; try omega))).trans (by (simp (maxDischargeDepth := 8) [go_sem, World.cell?_alloc_past, ltk2, ltk3, ltk4, ltk5, ltk6, ltk7, ltk8, ltk9, *]))
  have cc5_1 : v5.cell? ⟨w.heap.size, 1, none⟩ = some (.int .i64 ra) := (hb5.cell (p := ⟨w.heap.size, 1, none⟩) (by first | omega | (simp [ext_size]; try omega))).trans (by (simp (maxDischargeDepth := 8) [go_sem, World.cell?_alloc_past, ltk2, ltk3, ltk4, ltk5, ltk6, ltk7, ltk8, ltk9, *]))
  have cc5_2 : v5.cell? ⟨w.heap.size, 2, none⟩ = some (.int .i64 da) := (hb5.cell (p := ⟨w.heap.size, 2, none⟩) (by first | omega | (simp [ext_size]; try omega))).trans (by (simp (maxDischargeDepth := 8) [go_sem, World.cell?_alloc_past, ltk2, ltk3, ltk4, ltk5, ltk6, ltk7, ltk8, ltk9, *]))
  have cc5_3 : v5.cell? ⟨w.heap.size + 1, 0, none⟩ = some (.string t) := (hb5.cell (p := ⟨w.heap.size + 1, 0, none⟩) (by first | omega | (simp [ext_size]; try omega))).trans (by (simp (maxDischargeDepth := 8) [go_sem, World.cell?_alloc_past, ltk2, ltk3, ltk4, ltk5, ltk6, ltk7, ltk8, ltk9, *]))
  have cc5_4 : v5.cell? ⟨w.heap.size + 1, 1, none⟩ = some (.int .i64 rb) := (hb5.cell (p := ⟨w.heap.size + 1, 1, none⟩) (by first | omega | (simp [ext_size]; try omega))).trans (by (simp (maxDischargeDepth := 8) [go_sem, World.cell?_alloc_past, ltk2, ltk3, ltk4, ltk5, ltk6, ltk7, ltk8, ltk9, *]))
  have cc5_5 : v5.cell? ⟨w.heap.size + 1, 2, none⟩ = some (.int .i64 db) := (hb5.cell (p := ⟨w.heap.size + 1, 2, none⟩) (by first | omega | (simp [ext_size]; try omega))).trans (by (simp (maxDischargeDepth := 8) [go_sem, World.cell?_alloc_past, ltk2, ltk3, ltk4, ltk5, ltk6, ltk7, ltk8, ltk9, *]))
  have cc5_6 : v5.cell? ⟨v3.heap.size, 0, none⟩ = some (.int .i64 x0) := (hb5.cell (p := ⟨v3.heap.size, 0, none⟩) (by first | omega | (simp [ext_size]; try omega))).trans (by (simp (maxDischargeDepth := 8) [go_sem, World.cell?_alloc_past, ltk2, ltk3, ltk4, ltk5, ltk6, ltk7, ltk8, ltk9, *]))
  have cc5_7 : v5.cell? ⟨v3.heap.size, 1, none⟩ = some (.int .i64 x1) := (hb5.cell (p := ⟨v3.heap.size, 1, none⟩) (by first | omega | (simp [ext_size]; try omega))).trans (by (simp (maxDischargeDepth := 8) [go_sem, World.cell?_alloc_past, ltk2, ltk3, ltk4, ltk5, ltk6, ltk7, ltk8, ltk9, *]))
  have cc5_8 : v5.cell? ⟨v3.heap.size, 2, none⟩ = some (.int .i64 x2) := (hb5.cell (p := ⟨v3.heap.size, 2, none⟩) (by first | omega | (simp [ext_size]; try omega))).trans (by (simp (maxDischargeDepth := 8) [go_sem, World.cell?_alloc_past, ltk2, ltk3, ltk4, ltk5, ltk6, ltk7, ltk8, ltk9, *]))
  have cc5_9 : v5.cell? ⟨v3.heap.size, 3, none⟩ = some (.int .i64 x3) := (hb5.cell (p := ⟨v3.heap.size, 3, none⟩) (by first | omega | (simp [ext_size]; try omega))).trans (by (simp (maxDischargeDepth := 8) [go_sem, World.cell?_alloc_past, ltk2, ltk3, ltk4, ltk5, ltk6, ltk7, ltk8, ltk9, *]))
  have cc5_10 : v5.cell? ⟨v3.heap.size, 4, none⟩ = some (.int .i64 x4) := (hb5.cell (p := ⟨v3.heap.size, 4, none⟩) (by first | omega | (simp [ext_size]; try omega))).trans (by (simp (maxDischargeDepth := 8) [go_sem, World.cell?_alloc_past, ltk2, ltk3, ltk4, ltk5, ltk6, ltk7, ltk8, ltk9, *]))
  have cc5_11 : v5.cell? ⟨v3.heap.size, 5, none⟩ = some (.int .i64 x5) := (hb5.cell (p := ⟨v3.heap.size, 5, none⟩) (by first | omega | (simp [ext_size]; try omega))).trans (by (simp (maxDischargeDepth := 8) [go_sem, World.cell?_alloc_past, ltk2, ltk3, ltk4, ltk5, ltk6, ltk7, ltk8, ltk9, *]))
  have cc5_12 : v5.cell? ⟨v4.heap.size, 0, none⟩ = some (.int .i64 z0) := (hb5.cell (p := ⟨v4.heap.size, 0, none⟩) (by first | omega | (simp [ext_size]; try omega))).trans (by (simp (maxDischargeDepth := 8) [go_sem, World.cell?_alloc_past, ltk2, ltk3, ltk4, ltk5, ltk6, ltk7, ltk8, ltk9, *]))
  have cc5_13 : v5.cell? ⟨v4.heap.size, 1, none⟩ = some (.int .i64 z1) := (hb5.cell (p := ⟨v4.heap.size, 1, none⟩) (by first | omega | (simp [ext_size]; try omega))).trans (by (simp (maxDischargeDepth := 8) [go_sem, World.cell?_alloc_past, ltk2, ltk3, ltk4, ltk5, ltk6, ltk7, ltk8, ltk9, *]))
  have cc5_14 : v5.cell? ⟨v4.heap.size, 2, none⟩ = some (.int .i64 z2) := (hb5.cell (p := ⟨v4.heap.size, 2, none⟩) (by first | omega | (simp [ext_size]; try omega))).trans (by (simp (maxDischargeDepth := 8) [go_sem, World.cell?_alloc_past, ltk2, ltk3, ltk4, ltk5, ltk6, ltk7, ltk8, ltk9, *]))
  have cc5_15 : v5.cell? ⟨v4.heap.size, 3, none⟩ = some (.int .i64 z3) := (hb5.cell (p := ⟨v4.heap.size, 3, none⟩) (by first | omega | (simp [ext_size]; try omega))).trans (by (simp (maxDischargeDepth := 8) [go_sem, World.cell?_alloc_past, ltk2, ltk3, ltk4, ltk5, ltk6, ltk7, ltk8, ltk9, *]))
  have cc5_16 : v5.cell? ⟨v4.heap.size, 4, none⟩ = some (.int .i64 z4) := (hb5.cell (p := ⟨v4.heap.size, 4, none⟩) (by first | omega | (simp [ext_size]; try omega))).trans (by (simp (maxDischargeDepth := 8) [go_sem, World.cell?_alloc_past, ltk2, ltk3, ltk4, ltk5, ltk6, ltk7, ltk8, ltk9, *]))
  have cc5_17 : v5.cell? ⟨v4.heap.size, 5, none⟩ = some (.int .i64 z5) := (hb5.cell (p := ⟨v4.heap.size, 5, none⟩) (by first | omega | (simp [ext_size]; try omega))).trans (by (simp (maxDischargeDepth := 8) [go_sem, World.cell?_alloc_past, ltk2, ltk3, ltk4, ltk5, ltk6, ltk7, ltk8, ltk9, *]))
  have cf5_0 : v5.frozen? ⟨w.heap.size, 1, none⟩ = false := (hb5.frozen (p := ⟨w.heap.size, 1, none⟩) (by first | omega | (simp [ext_size]; try omega))).trans (by (simp (maxDischargeDepth := 8) [go_sem, World.cell?_alloc_past, ltk2, ltk3, ltk4, ltk5, ltk6, ltk7, ltk8, ltk9, *]))
  have cf5_1 : v5.frozen? ⟨w.heap.size + 1, 1, none⟩ = false := (hb5.frozen (p := ⟨w.heap.size + 1, 1, none⟩) (by first | omega | (simp [ext_size]; try omega))).trans (by (simp (maxDischargeDepth := 8) [go_sem, World.cell?_alloc_past, ltk2, ltk3, ltk4, ltk5, ltk6, ltk7, ltk8, ltk9, *]))
  have zl5_0 : w.heap.size < v5.heap.size := by omega
  have zl5_1 : w.heap.size + 1 < v5.heap.size := by omega
  have zl5_2 : v3.heap.size < v5.heap.size := by omega
  have zl5_3 : v4.heap.size < v5.heap.size := by omega
  have hB5 : Below w.heap.size w v5 := Below.trans (by (repeat (first | with_reducible exact hB4 | (with_reducible refine bext ?_ _ _) | (with_reducible refine below_drewN ?_ _) | (with_reducible refine Below.drew ?_) | (with_reducible refine bal ?_ _) | (with_reducible refine bset ?_ (by first | omega | (simp <;> omega)) _)))) (hb5.mono (by first | omega | (simp [ext_size]; try omega)))
  have zw5 := hB5.size
  clear hb5
  clear cc4_0 cc4_1 cc4_2 cc4_3 cc4_4 cc4_5 cc4_6 cc4_7 cc4_8 cc4_9 cc4_10 cc4_11 cf4_0 cf4_1 zl4_0 zl4_1 zl4_2 zz4 zw4 hB4
  have dX : w.heap.size + 1 < v5.heap.size := by omega
  go_wp2_with fail
  with_reducible refine (A6 _).mono ?_
  rintro e v6 ⟨rfl, hb6⟩
  have zz6 := hb6.size
  try simp [ext_size] at zz6
  have cc6_0 : v6.cell? ⟨w.heap.size, 0, none⟩ = some (.string s) := (hb6.cell (p := ⟨w.heap.size, 0, none⟩) (by first | omega | (simp [ext_size]; try omega))).trans (by (simp (maxDischargeDepth := 8) [go_sem, World.cell?_alloc_past, ltk2, ltk3, ltk4, ltk5, ltk6, ltk7, ltk8, ltk9, *]))
  have cc6_1 : v6.cell? ⟨w.heap.size, 1, none⟩ = some (.int .i64 ra) := (hb6.cell (p := ⟨w.heap.size, 1, none⟩) (by first | omega | (simp [ext_size]; try omega))).trans (by (simp (maxDischargeDepth := 8) [go_sem, World.cell?_alloc_past, ltk2, ltk3, ltk4, ltk5, ltk6, ltk7, ltk8, ltk9, *]))
  have cc6_2 : v6.cell? ⟨w.heap.size, 2, none⟩ = some (.int .i64 da) := (hb6.cell (p := ⟨w.heap.size, 2, none⟩) (by first | omega | (simp [ext_size]; try omega))).trans (by (simp (maxDischargeDepth := 8) [go_sem, World.cell?_alloc_past, ltk2, ltk3, ltk4, ltk5, ltk6, ltk7, ltk8, ltk9, *]))
  have cc6_3 : v6.cell? ⟨w.heap.size + 1, 0, none⟩ = some (.string t) := (hb6.cell (p := ⟨w.heap.size + 1, 0, none⟩) (by first | omega | (simp [ext_size]; try omega))).trans (by (simp (maxDischargeDepth := 8) [go_sem, World.cell?_alloc_past, ltk2, ltk3, ltk4, ltk5, ltk6, ltk7, ltk8, ltk9, *]))
  have cc6_4 : v6.cell? ⟨w.heap.size + 1, 1, none⟩ = some (.int .i64 rb) := (hb6.cell (p := ⟨w.heap.size + 1, 1, none⟩) (by first | omega | (simp [ext_size]; try omega))).trans (by (simp (maxDischargeDepth := 8) [go_sem, World.cell?_alloc_past, ltk2, ltk3, ltk4, ltk5, ltk6, ltk7, ltk8, ltk9, *]))
  have cc6_5 : v6.cell? ⟨w.heap.size + 1, 2, none⟩ = some (.int .i64 db) := (hb6.cell (p := ⟨w.heap.size + 1, 2, none⟩) (by first | omega | (simp [ext_size]; try omega))).trans (by (simp (maxDischargeDepth := 8) [go_sem, World.cell?_alloc_past, ltk2, ltk3, ltk4, ltk5, ltk6, ltk7, ltk8, ltk9, *]))
  have cc6_6 : v6.cell? ⟨v5.heap.size, 0, none⟩ = some (.int .i64 L1) := (hb6.cell (p := ⟨v5.heap.size, 0, none⟩) (by first | omega | (simp [ext_size]; try omega))).trans (by (simp (maxDischargeDepth := 8) [go_sem, World.cell?_alloc_past, ltk2, ltk3, ltk4, ltk5, ltk6, ltk7, ltk8, ltk9, *]))
  have cc6_7 : v6.cell? ⟨v5.heap.size, 1, none⟩ = some (.int .i64 H1) := (hb6.cell (p := ⟨v5.heap.size, 1, none⟩) (by first | omega | (simp [ext_size]; try omega))).trans (by (simp (maxDischargeDepth := 8) [go_sem, World.cell?_alloc_past, ltk2, ltk3, ltk4, ltk5, ltk6, ltk7, ltk8, ltk9, *]))
  have cf6_0 : v6.frozen? ⟨w.heap.size, 1, none⟩ = false := (hb6.frozen (p := ⟨w.heap.size, 1, none⟩) (by first | omega | (simp [ext_size]; try omega))).trans (by (simp (maxDischargeDepth := 8) [go_sem, World.cell?_alloc_past, ltk2, ltk3, ltk4, ltk5, ltk6, ltk7, ltk8, ltk9, *]))
  have cf6_1 : v6.frozen? ⟨w.heap.size + 1, 1, none⟩ = false := (hb6.frozen (p := ⟨w.heap.size + 1, 1, none⟩) (by first | omega | (simp [ext_size]; try omega))).trans (by (simp (maxDischargeDepth := 8) [go_sem, World.cell?_alloc_past, ltk2, ltk3, ltk4, ltk5, ltk6, ltk7, ltk8, ltk9, *]))
  have zl6_0 : w.heap.size < v6.heap.size := by omega
  have zl6_1 : w.heap.size + 1 < v6.heap.size := by omega
  have zl6_2 : v5.heap.size < v6.heap.size := by omega
  have hB6 : Below w.heap.size w v6 := Below.trans (by (repeat (first | with_reducible exact hB5 | (with_reducible refine bext ?_ _ _) | (with_reducible refine below_drewN ?_ _) | (with_reducible refine Below.drew ?_) | (with_reducible refine bal ?_ _) | (with_reducible refine bset ?_ (by first | omega | (simp <;> omega)) _)))) (hb6.mono (by first | omega | (simp [ext_size]; try omega)))
  have zw6 := hB6.size
  clear hb6
  clear cc5_0 cc5_1 cc5_2 cc5_3 cc5_4 cc5_5 cc5_6 cc5_7 cc5_8 cc5_9 cc5_10 cc5_11 cc5_12 cc5_13 cc5_14 cc5_15 cc5_16 cc5_17 cf5_0 cf5_1 zl5_0 zl5_1 zl5_2 zl5_3 zz5 zw5 hB5
  have dY : w.heap.size + 1 < v6.heap.size := by omega
  go_wp2_with fail
  with_reducible refine (A7 _).mono ?_
  rintro e v7 ⟨rfl, hb7⟩
  have zz7 := hb7.size
  try simp [ext_size] at zz7
  have cc7_0 : v7.cell? ⟨w.heap.size, 0, none⟩ = some (.string s) := (hb7.cell (p := ⟨w.heap.size, 0, none⟩) (by first | omega | (simp [ext_size]; try omega))).trans (by (simp (maxDischargeDepth := 8) [go_sem, World.cell?_alloc_past, ltk2, ltk3, ltk4, ltk5, ltk6, ltk7, ltk8, ltk9, *]))
  have cc7_1 : v7.cell? ⟨w.heap.size, 1, none⟩ = some (.int .i64 ra) := (hb7.cell (p := ⟨w.heap.size, 1, none⟩) (by first | omega | (simp [ext_size]; try omega))).trans (by (simp (maxDischargeDepth := 8) [go_sem, World.cell?_alloc_past, ltk2, ltk3, ltk4, ltk5, ltk6, ltk7, ltk8, ltk9, *]))
  have cc7_2 : v7.cell? ⟨w.heap.size, 2, none⟩ = some (.int .i64 da) := (hb7.cell (p := ⟨w.heap.size, 2, none⟩) (by first | omega | (simp [ext_size]; try omega))).trans (by (simp (maxDischargeDepth := 8) [go_sem, World.cell?_alloc_past, ltk2, ltk3, ltk4, ltk5, ltk6, ltk7, ltk8, ltk9, *]))
  have cc7_3 : v7.cell? ⟨w.heap.size + 1, 0, none⟩ = some (.string t) := (hb7.cell (p := ⟨w.heap.size + 1, 0, none⟩) (by first | omega | (simp [ext_size]; try omega))).trans (by (simp (maxDischargeDepth := 8) [go_sem, World.cell?_alloc_past, ltk2, ltk3, ltk4, ltk5, ltk6, ltk7, ltk8, ltk9, *]))
  have cc7_4 : v7.cell? ⟨w.heap.size + 1, 1, none⟩ = some (.int .i64 rb) := (hb7.cell (p := ⟨w.heap.size + 1, 1, none⟩) (by first | omega | (simp [ext_size]; try omega))).trans (by (simp (maxDischargeDepth := 8) [go_sem, World.cell?_alloc_past, ltk2, ltk3, ltk4, ltk5, ltk6, ltk7, ltk8, ltk9, *]))
  have cc7_5 : v7.cell? ⟨w.heap.size + 1, 2, none⟩ = some (.int .i64 db) := (hb7.cell (p := ⟨w.heap.size + 1, 2, none⟩) (by first | omega | (simp [ext_size]; try omega))).trans (by (simp (maxDischargeDepth := 8) [go_sem, World.cell?_alloc_past, ltk2, ltk3, ltk4, ltk5, ltk6, ltk7, ltk8, ltk9, *]))
  have cc7_6 : v7.cell? ⟨v5.heap.size, 0, none⟩ = some (.int .i64 L1) := (hb7.cell (p := ⟨v5.heap.size, 0, none⟩) (by first | omega | (simp [ext_size]; try omega))).trans (by (simp (maxDischargeDepth := 8) [go_sem, World.cell?_alloc_past, ltk2, ltk3, ltk4, ltk5, ltk6, ltk7, ltk8, ltk9, *]))
  have cc7_7 : v7.cell? ⟨v5.heap.size, 1, none⟩ = some (.int .i64 H1) := (hb7.cell (p := ⟨v5.heap.size, 1, none⟩) (by first | omega | (simp [ext_size]; try omega))).trans (by (simp (maxDischargeDepth := 8) [go_sem, World.cell?_alloc_past, ltk2, ltk3, ltk4, ltk5, ltk6, ltk7, ltk8, ltk9, *]))
  have cc7_8 : v7.cell? ⟨v6.heap.size, 0, none⟩ = some (.int .i64 L2) := (hb7.cell (p := ⟨v6.heap.size, 0, none⟩) (by first | omega | (simp [ext_size]; try omega))).trans (by (simp (maxDischargeDepth := 8) [go_sem, World.cell?_alloc_past, ltk2, ltk3, ltk4, ltk5, ltk6, ltk7, ltk8, ltk9, *]))
  have cc7_9 : v7.cell? ⟨v6.heap.size, 1, none⟩ = some (.int .i64 H2) := (hb7.cell (p := ⟨v6.heap.size, 1, none⟩) (by first | omega | (simp [ext_size]; try omega))).trans (by (simp (maxDischargeDepth := 8) [go_sem, World.cell?_alloc_past, ltk2, ltk3, ltk4, ltk5, ltk6, ltk7, ltk8, ltk9, *]))
  have cf7_0 : v7.frozen? ⟨w.heap.size, 1, none⟩ = false := (hb7.frozen (p := ⟨w.heap.size, 1, none⟩) (by first | omega | (simp [ext_size]; try omega))).trans (by (simp (maxDischargeDepth := 8) [go_sem, World.cell?_alloc_past, ltk2, ltk3, ltk4, ltk5, ltk6, ltk7, ltk8, ltk9, *]))
  have cf7_1 : v7.frozen? ⟨w.heap.size + 1, 1, none⟩ = false := (hb7.frozen (p := ⟨w.heap.size + 1, 1, none⟩) (by first | omega | (simp [ext_size]; try omega))).trans (by (simp (maxDischargeDepth := 8) [go_sem, World.cell?_alloc_past, ltk2, ltk3, ltk4, ltk5, ltk6, ltk7, ltk8, ltk9, *]))
  have zl7_0 : w.heap.size < v7.heap.size := by omega
  have zl7_1 : w.heap.size + 1 < v7.heap.size := by omega
  have zl7_2 : v5.heap.size < v7.heap.size := by omega
  have zl7_3 : v6.heap.size < v7.heap.size := by omega
  have hB7 : Below w.heap.size w v7 := Below.trans (by (repeat (first | with_reducible exact hB6 | (with_reducible refine bext ?_ _ _) | (with_reducible refine below_drewN ?_ _) | (with_reducible refine Below.drew ?_) | (with_reducible refine bal ?_ _) | (with_reducible refine bset ?_ (by first | omega | (simp <;> omega)) _)))) (hb7.mono (by first | omega | (simp [ext_size]; try omega)))
  have zw7 := hB7.size
  clear hb7
  clear cc6_0 cc6_1 cc6_2 cc6_3 cc6_4 cc6_5 cc6_6 cc6_7 cf6_0 cf6_1 zl6_0 zl6_1 zl6_2 zz6 zw6 hB6
  have dZ : w.heap.size + 1 < v7.heap.size := by omega
  go_upto_region 8 with fail
  refine opq (fun wx => wx.cell? ⟨w.heap.size, 0, none⟩ = some (.string s) ∧ wx.cell? ⟨w.heap.size, 1, none⟩ = some (.int .i64 ra) ∧ wx.cell? ⟨w.heap.size, 2, none⟩ = some (.int .i64 da) ∧ wx.cell? ⟨w.heap.size + 1, 0, none⟩ = some (.string t) ∧ wx.cell? ⟨w.heap.size + 1, 1, none⟩ = some (.int .i64 rb) ∧ wx.cell? ⟨w.heap.size + 1, 2, none⟩ = some (.int .i64 db) ∧ wx.cell? ⟨v5.heap.size, 0, none⟩ = some (.int .i64 L1) ∧ wx.cell? ⟨v5.heap.size, 1, none⟩ = some (.int .i64 H1) ∧ wx.cell? ⟨v6.heap.size, 0, none⟩ = some (.int .i64 L2) ∧ wx.cell? ⟨v6.heap.size, 1, none⟩ = some (.int .i64 H2) ∧ wx.cell? ⟨v7.heap.size, 0, none⟩ = some (.int .i64 L2) ∧ wx.cell? ⟨v7.heap.size, 1, none⟩ = some (.int .i64 H2) ∧ wx.frozen? ⟨w.heap.size, 1, none⟩ = false ∧ wx.frozen? ⟨w.heap.size + 1, 1, none⟩ = false ∧ w.heap.size < wx.heap.size ∧ w.heap.size + 1 < wx.heap.size ∧ v5.heap.size < wx.heap.size ∧ v6.heap.size < wx.heap.size ∧ v7.heap.size < wx.heap.size ∧ Below w.heap.size w wx) ?_ ?_
  · exact ⟨by first | assumption | (simp (maxDischargeDepth := 8) [go_sem, World.cell?_alloc_past, ltk2, ltk3, ltk4, ltk5, ltk6, ltk7, ltk8, ltk9, *]), by first | assumption | (simp (maxDischargeDepth := 8) [go_sem, World.cell?_alloc_past, ltk2, ltk3, ltk4, ltk5, ltk6, ltk7, ltk8, ltk9, *]), by first | assumption | (simp (maxDischargeDepth := 8) [go_sem, World.cell?_alloc_past, ltk2, ltk3, ltk4, ltk5, ltk6, ltk7, ltk8, ltk9, *]), by first | assumption | (simp (maxDischargeDepth := 8) [go_sem, World.cell?_alloc_past, ltk2, ltk3, ltk4, ltk5, ltk6, ltk7, ltk8, ltk9, *]), by first | assumption | (simp (maxDischargeDepth := 8) [go_sem, World.cell?_alloc_past, ltk2, ltk3, ltk4, ltk5, ltk6, ltk7, ltk8, ltk9, *]), by first | assumption | (simp (maxDischargeDepth := 8) [go_sem, World.cell?_alloc_past, ltk2, ltk3, ltk4, ltk5, ltk6, ltk7, ltk8, ltk9, *]), by first | assumption | (simp (maxDischargeDepth := 8) [go_sem, World.cell?_alloc_past, ltk2, ltk3, ltk4, ltk5, ltk6, ltk7, ltk8, ltk9, *]), by first | assumption | (simp (maxDischargeDepth := 8) [go_sem, World.cell?_alloc_past, ltk2, ltk3, ltk4, ltk5, ltk6, ltk7, ltk8, ltk9, *]), by first | assumption | (simp (maxDischargeDepth := 8) [go_sem, World.cell?_alloc_past, ltk2, ltk3, ltk4, ltk5, ltk6, ltk7, ltk8, ltk9, *]), by first | assumption | (simp (maxDischargeDepth := 8) [go_sem, World.cell?_alloc_past, ltk2, ltk3, ltk4, ltk5, ltk6, ltk7, ltk8, ltk9, *]), by first | assumption | (simp (maxDischargeDepth := 8) [go_sem, World.cell?_alloc_past, ltk2, ltk3, ltk4, ltk5, ltk6, ltk7, ltk8, ltk9, *]), by first | assumption | (simp (maxDischargeDepth := 8) [go_sem, World.cell?_alloc_past, ltk2, ltk3, ltk4, ltk5, ltk6, ltk7, ltk8, ltk9, *]), by first | assumption | (simp (maxDischargeDepth := 8) [go_sem, World.cell?_alloc_past, ltk2, ltk3, ltk4, ltk5, ltk6, ltk7, ltk8, ltk9, *]), by first | assumption | (simp (maxDischargeDepth := 8) [go_sem, World.cell?_alloc_past, ltk2, ltk3, ltk4, ltk5, ltk6, ltk7, ltk8, ltk9, *]), by first | assumption | omega | (simp [ext_size]; try omega), by first | assumption | omega | (simp [ext_size]; try omega), by first | assumption | omega | (simp [ext_size]; try omega), by first | assumption | omega | (simp [ext_size]; try omega), by first | assumption | omega | (simp [ext_size]; try omega), by (repeat (first | with_reducible exact hB7 | (with_reducible refine bext ?_ _ _) | (with_reducible refine below_drewN ?_ _) | (with_reducible refine Below.drew ?_) | (with_reducible refine bal ?_ _) | (with_reducible refine bset ?_ (by first | omega | (simp <;> omega)) _)))⟩
  rintro wx ⟨k0, k1, k2, k3, k4, k5, k6, k7, k8, k9, k10, k11, f0, f1, zs0, zs1, zs2, zs3, zs4, hB⟩
  clear cc7_0 cc7_1 cc7_2 cc7_3 cc7_4 cc7_5 cc7_6 cc7_7 cc7_8 cc7_9 cf7_0 cf7_1 zl7_0 zl7_1 zl7_2 zl7_3 zz7 zw7 hB7 dAl dSt xC xF xS xN xD xL xE xG xX xL1 xL2 xL3 xM0 xM1 xM2 A1 A2 A3 A4 A5 A6 A7
  generalize v5.heap.size = bx at *
  generalize v6.heap.size = by2 at *
  generalize v7.heap.size = bz at *
  have dXa : (w.heap.size = bx) = False := by simp; omega
  have dXb : (w.heap.size + 1 = bx) = False := by simp; omega
  have dXc : (bx = w.heap.size) = False := by simp; omega
  have dXd : (bx = w.heap.size + 1) = False := by simp; omega
  have dYa : (w.heap.size = by2) = False := by simp; omega
  have dYb : (w.heap.size + 1 = by2) = False := by simp; omega
  have dYc : (by2 = w.heap.size) = False := by simp; omega
  have dYd : (by2 = w.heap.size + 1) = False := by simp; omega
  have dZa : (w.heap.size = bz) = False := by simp; omega
  have dZb : (w.heap.size + 1 = bz) = False := by simp; omega
  have dZc : (bz = w.heap.size) = False := by simp; omega
  have dZd : (bz = w.heap.size + 1) = False := by simp; omega
  go_cut [] (fun wc => (wc.cell? ⟨w.heap.size, 0, none⟩ = some (.string s) ∧ wc.cell? ⟨w.heap.size, 1, none⟩ = some (.int .i64 p) ∧ wc.cell? ⟨w.heap.size, 2, none⟩ = some (.int .i64 da) ∧ wc.cell? ⟨w.heap.size + 1, 0, none⟩ = some (.string t) ∧ wc.cell? ⟨w.heap.size + 1, 1, none⟩ = some (.int .i64 q) ∧ wc.cell? ⟨w.heap.size + 1, 2, none⟩ = some (.int .i64 db) ∧ wc.cell? ⟨bx, 0, none⟩ = some (.int .i64 L1) ∧ wc.cell? ⟨bx, 1, none⟩ = some (.int .i64 H1) ∧ wc.cell? ⟨by2, 0, none⟩ = some (.int .i64 L2) ∧ wc.cell? ⟨by2, 1, none⟩ = some (.int .i64 H2) ∧ wc.cell? ⟨bz, 0, none⟩ = some (.int .i64 L2) ∧ wc.cell? ⟨bz, 1, none⟩ = some (.int .i64 H2)) ∧ (w.heap.size < wc.heap.size ∧ w.heap.size + 1 < wc.heap.size ∧ bx < wc.heap.size ∧ by2 < wc.heap.size ∧ bz < wc.heap.size) ∧ Below w.heap.size w wc)
  case first =>
    go_region
    all_goals go_wp2_with fail
    all_goals go_meet
    all_goals exact ⟨⟨by (simp (maxDischargeDepth := 8) [go_sem, World.cell?_alloc_past, ltk2, ltk3, ltk4, ltk5, ltk6, ltk7, ltk8, ltk9, *]), by (simp (maxDischargeDepth := 8) [go_sem, World.cell?_alloc_past, ltk2, ltk3, ltk4, ltk5, ltk6, ltk7, ltk8, ltk9, *]), by (simp (maxDischargeDepth := 8) [go_sem, World.cell?_alloc_past, ltk2, ltk3, ltk4, ltk5, ltk6, ltk7, ltk8, ltk9, *]), by (simp (maxDischargeDepth := 8) [go_sem, World.cell?_alloc_past, ltk2, ltk3, ltk4, ltk5, ltk6, ltk7, ltk8, ltk9, *]), by (simp (maxDischargeDepth := 8) [go_sem, World.cell?_alloc_past, ltk2, ltk3, ltk4, ltk5, ltk6, ltk7, ltk8, ltk9, *]), by (simp (maxDischargeDepth := 8) [go_sem, World.cell?_alloc_past, ltk2, ltk3, ltk4, ltk5, ltk6, ltk7, ltk8, ltk9, *]), by (simp (maxDischargeDepth := 8) [go_sem, World.cell?_alloc_past, ltk2, ltk3, ltk4, ltk5, ltk6, ltk7, ltk8, ltk9, *]), by (simp (maxDischargeDepth := 8) [go_sem, World.cell?_alloc_past, ltk2, ltk3, ltk4, ltk5, ltk6, ltk7, ltk8, ltk9, *]), by (simp (maxDischargeDepth := 8) [go_sem, World.cell?_alloc_past, ltk2, ltk3, ltk4, ltk5, ltk6, ltk7, ltk8, ltk9, *]), by (simp (maxDischargeDepth := 8) [go_sem, World.cell?_alloc_past, ltk2, ltk3, ltk4, ltk5, ltk6, ltk7, ltk8, ltk9, *]), by (simp (maxDischargeDepth := 8) [go_sem, World.cell?_alloc_past, ltk2, ltk3, ltk4, ltk5, ltk6, ltk7, ltk8, ltk9, *]), by (simp (maxDischargeDepth := 8) [go_sem, World.cell?_alloc_past, ltk2, ltk3, ltk4, ltk5, ltk6, ltk7, ltk8, ltk9, *])⟩, ⟨by (simp; try omega), by (simp; try omega), by (simp; try omega), by (simp; try omega), by (simp; try omega)⟩, by (repeat (first | with_reducible exact hB | (with_reducible refine bext ?_ _ _) | (with_reducible refine below_drewN ?_ _) | (with_reducible refine Below.drew ?_) | (with_reducible refine bal ?_ _) | (with_reducible refine bset ?_ (by first | omega | (simp <;> omega)) _)))⟩
  case rest =>
    clear hp hq w1 w2 w3 w4 hB dX dXa dXb dXc dXd dY dYa dYb dYc dYd dZ dZa dZb dZc dZd k0 k1 k2 k3 k4 k5 k6 k7 k8 k9 k10 k11 f0 f1 zs0 zs1 zs2 zs3 zs4
    obtain ⟨⟨m0, m1, m2, m3, m4, m5, m6, m7, m8, m9, m10, m11⟩, ⟨y0, y1, y2, y3, y4⟩, hBc⟩ := hcut
    have zwc := hBc.size
    have dAl := dAl; have dSt := dSt; have xC := ext_cell; have xF := ext_frozen; have xS := ext_set; have xN := ext_drewN; have xD := ext_drew; have xL := ext_lt; have xE := ext_ne; have xG := ext_nr; have xX := ext_ext; have xL1 := ext_lt1; have xL2 := ext_lt2; have xL3 := ext_lt3; have xM0 := ext_le0; have xM1 := ext_le1; have xM2 := ext_le2
    go_wp2_with fail
    with_reducible refine (A8 _).mono ?_
    rintro e v21 ⟨rfl, hb21⟩
    have zz21 := hb21.size
    try simp [ext_size] at zz21
    have cc21_0 : v21.cell? ⟨bx, 0, none⟩ = some (.int .i64 L1) := (hb21.cell (p := ⟨bx, 0, none⟩) (by first | omega | (simp [ext_size]; try omega))).trans (by (simp (maxDischargeDepth := 8) [go_sem, World.cell?_alloc_past, ltk2, ltk3, ltk4, ltk5, ltk6, ltk7, ltk8, ltk9, *]))
    have cc21_1 : v21.cell? ⟨bx, 1, none⟩ = some (.int .i64 H1) := (hb21.cell (p := ⟨bx, 1, none⟩) (by first | omega | (simp [ext_size]; try omega))).trans (by (simp (maxDischargeDepth := 8) [go_sem, World.cell?_alloc_past, ltk2, ltk3, ltk4, ltk5, ltk6, ltk7, ltk8, ltk9, *]))
    have cc21_2 : v21.cell? ⟨by2, 0, none⟩ = some (.int .i64 L2) := (hb21.cell (p := ⟨by2, 0, none⟩) (by first | omega | (simp [ext_size]; try omega))).trans (by (simp (maxDischargeDepth := 8) [go_sem, World.cell?_alloc_past, ltk2, ltk3, ltk4, ltk5, ltk6, ltk7, ltk8, ltk9, *]))
    have cc21_3 : v21.cell? ⟨by2, 1, none⟩ = some (.int .i64 H2) := (hb21.cell (p := ⟨by2, 1, none⟩) (by first | omega | (simp [ext_size]; try omega))).trans (by (simp (maxDischargeDepth := 8) [go_sem, World.cell?_alloc_past, ltk2, ltk3, ltk4, ltk5, ltk6, ltk7, ltk8, ltk9, *]))
    have cc21_4 : v21.cell? ⟨bz, 0, none⟩ = some (.int .i64 L2) := (hb21.cell (p := ⟨bz, 0, none⟩) (by first | omega | (simp [ext_size]; try omega))).trans (by (simp (maxDischargeDepth := 8) [go_sem, World.cell?_alloc_past, ltk2, ltk3, ltk4, ltk5, ltk6, ltk7, ltk8, ltk9, *]))
    have cc21_5 : v21.cell? ⟨bz, 1, none⟩ = some (.int .i64 H2) := (hb21.cell (p := ⟨bz, 1, none⟩) (by first | omega | (simp [ext_size]; try omega))).trans (by (simp (maxDischargeDepth := 8) [go_sem, World.cell?_alloc_past, ltk2, ltk3, ltk4, ltk5, ltk6, ltk7, ltk8, ltk9, *]))
    have zl21_0 : bx < v21.heap.size := by omega
    have zl21_1 : by2 < v21.heap.size := by omega
    have zl21_2 : bz < v21.heap.size := by omega
    have hB21 : Below w.heap.size w v21 := Below.trans (by (repeat (first | with_reducible exact hBc | (with_reducible refine bext ?_ _ _) | (with_reducible refine below_drewN ?_ _) | (with_reducible refine Below.drew ?_) | (with_reducible refine bal ?_ _) | (with_reducible refine bset ?_ (by first | omega | (simp <;> omega)) _)))) (hb21.mono (by first | omega | (simp [ext_size]; try omega)))
    have zw21 := hB21.size
    clear hb21
    go_wp2_with fail
    with_reducible refine (A9 _).mono ?_
    rintro e v22 ⟨rfl, hb22⟩
    have zz22 := hb22.size
    try simp [ext_size] at zz22
    have cc22_0 : v22.cell? ⟨bx, 0, none⟩ = some (.int .i64 L1) := (hb22.cell (p := ⟨bx, 0, none⟩) (by first | omega | (simp [ext_size]; try omega))).trans (by (simp (maxDischargeDepth := 8) [go_sem, World.cell?_alloc_past, ltk2, ltk3, ltk4, ltk5, ltk6, ltk7, ltk8, ltk9, *]))
    have cc22_1 : v22.cell? ⟨bx, 1, none⟩ = some (.int .i64 H1) := (hb22.cell (p := ⟨bx, 1, none⟩) (by first | omega | (simp [ext_size]; try omega))).trans (by (simp (maxDischargeDepth := 8) [go_sem, World.cell?_alloc_past, ltk2, ltk3, ltk4, ltk5, ltk6, ltk7, ltk8, ltk9, *]))
    have cc22_2 : v22.cell? ⟨by2, 0, none⟩ = some (.int .i64 L2) := (hb22.cell (p := ⟨by2, 0, none⟩) (by first | omega | (simp [ext_size]; try omega))).trans (by (simp (maxDischargeDepth := 8) [go_sem, World.cell?_alloc_past, ltk2, ltk3, ltk4, ltk5, ltk6, ltk7, ltk8, ltk9, *]))
    have cc22_3 : v22.cell? ⟨by2, 1, none⟩ = some (.int .i64 H2) := (hb22.cell (p := ⟨by2, 1, none⟩) (by first | omega | (simp [ext_size]; try omega))).trans (by (simp (maxDischargeDepth := 8) [go_sem, World.cell?_alloc_past, ltk2, ltk3, ltk4, ltk5, ltk6, ltk7, ltk8, ltk9, *]))
    have cc22_4 : v22.cell? ⟨bz, 0, none⟩ = some (.int .i64 L2) := (hb22.cell (p := ⟨bz, 0, none⟩) (by first | omega | (simp [ext_size]; try omega))).trans (by (simp (maxDischargeDepth := 8) [go_sem, World.cell?_alloc_past, ltk2, ltk3, ltk4, ltk5, ltk6, ltk7, ltk8, ltk9, *]))
    have cc22_5 : v22.cell? ⟨bz, 1, none⟩ = some (.int .i64 H2) := (hb22.cell (p := ⟨bz, 1, none⟩) (by first | omega | (simp [ext_size]; try omega))).trans (by (simp (maxDischargeDepth := 8) [go_sem, World.cell?_alloc_past, ltk2, ltk3, ltk4, ltk5, ltk6, ltk7, ltk8, ltk9, *]))
    have cc22_6 : v22.cell? ⟨v21.heap.size, 0, none⟩ = some (.int .i64 L2) := (hb22.cell (p := ⟨v21.heap.size, 0, none⟩) (by first | omega | (simp [ext_size]; try omega))).trans (by (simp (maxDischargeDepth := 8) [go_sem, World.cell?_alloc_past, ltk2, ltk3, ltk4, ltk5, ltk6, ltk7, ltk8, ltk9, *]))
    have cc22_7 : v22.cell? ⟨v21.heap.size, 1, none⟩ = some (.int .i64 H2) := (hb22.cell (p := ⟨v21.heap.size, 1, none⟩) (by first | omega | (simp [ext_size]; try omega))).trans (by (simp (maxDischargeDepth := 8) [go_sem, World.cell?_alloc_past, ltk2, ltk3, ltk4, ltk5, ltk6, ltk7, ltk8, ltk9, *]))
    have zl22_0 : bx < v22.heap.size := by omega
    have zl22_1 : by2 < v22.heap.size := by omega
    have zl22_2 : bz < v22.heap.size := by omega
    have zl22_3 : v21.heap.size < v22.heap.size := by omega
    have hB22 : Below w.heap.size w v22 := Below.trans (by (repeat (first | with_reducible exact hB21 | (with_reducible refine bext ?_ _ _) | (with_reducible refine below_drewN ?_ _) | (with_reducible refine Below.drew ?_) | (with_reducible refine bal ?_ _) | (with_reducible refine bset ?_ (by first | omega | (simp <;> omega)) _)))) (hb22.mono (by first | omega | (simp [ext_size]; try omega)))
    have zw22 := hB22.size
    clear hb22
    clear cc21_0 cc21_1 cc21_2 cc21_3 cc21_4 cc21_5 zl21_0 zl21_1 zl21_2 zz21 zw21 hB21
    go_wp2_with fail
    with_reducible refine (AL _).mono ?_
    rintro e v23 ⟨rfl, hb23⟩
    have zz23 := hb23.size
    try simp [ext_size] at zz23
    have cc23_0 : v23.cell? ⟨bx, 0, none⟩ = some (.int .i64 L1) := (hb23.cell (p := ⟨bx, 0, none⟩) (by first | omega | (simp [ext_size]; try omega))).trans (by (simp (maxDischargeDepth := 8) [go_sem, World.cell?_alloc_past, ltk2, ltk3, ltk4, ltk5, ltk6, ltk7, ltk8, ltk9, *]))
    have cc23_1 : v23.cell? ⟨bx, 1, none⟩ = some (.int .i64 H1) := (hb23.cell (p := ⟨bx, 1, none⟩) (by first | omega | (simp [ext_size]; try omega))).trans (by (simp (maxDischargeDepth := 8) [go_sem, World.cell?_alloc_past, ltk2, ltk3, ltk4, ltk5, ltk6, ltk7, ltk8, ltk9, *]))
    have cc23_2 : v23.cell? ⟨by2, 0, none⟩ = some (.int .i64 L2) := (hb23.cell (p := ⟨by2, 0, none⟩) (by first | omega | (simp [ext_size]; try omega))).trans (by (simp (maxDischargeDepth := 8) [go_sem, World.cell?_alloc_past, ltk2, ltk3, ltk4, ltk5, ltk6, ltk7, ltk8, ltk9, *]))
    have cc23_3 : v23.cell? ⟨by2, 1, none⟩ = some (.int .i64 H2) := (hb23.cell (p := ⟨by2, 1, none⟩) (by first | omega | (simp [ext_size]; try omega))).trans (by (simp (maxDischargeDepth := 8) [go_sem, World.cell?_alloc_past, ltk2, ltk3, ltk4, ltk5, ltk6, ltk7, ltk8, ltk9, *]))
    have cc23_4 : v23.cell? ⟨bz, 0, none⟩ = some (.int .i64 L2) := (hb23.cell (p := ⟨bz, 0, none⟩) (by first | omega | (simp [ext_size]; try omega))).trans (by (simp (maxDischargeDepth := 8) [go_sem, World.cell?_alloc_past, ltk2, ltk3, ltk4, ltk5, ltk6, ltk7, ltk8, ltk9, *]))
    have cc23_5 : v23.cell? ⟨bz, 1, none⟩ = some (.int .i64 H2) := (hb23.cell (p := ⟨bz, 1, none⟩) (by first | omega | (simp [ext_size]; try omega))).trans (by (simp (maxDischargeDepth := 8) [go_sem, World.cell?_alloc_past, ltk2, ltk3, ltk4, ltk5, ltk6, ltk7, ltk8, ltk9, *]))
    have cc23_6 : v23.cell? ⟨v21.heap.size, 0, none⟩ = some (.int .i64 L2) := (hb23.cell (p := ⟨v21.heap.size, 0, none⟩) (by first | omega | (simp [ext_size]; try omega))).trans (by (simp (maxDischargeDepth := 8) [go_sem, World.cell?_alloc_past, ltk2, ltk3, ltk4, ltk5, ltk6, ltk7, ltk8, ltk9, *]))
    have cc23_7 : v23.cell? ⟨v21.heap.size, 1, none⟩ = some (.int .i64 H2) := (hb23.cell (p := ⟨v21.heap.size, 1, none⟩) (by first | omega | (simp [ext_size]; try omega))).trans (by (simp (maxDischargeDepth := 8) [go_sem, World.cell?_alloc_past, ltk2, ltk3, ltk4, ltk5, ltk6, ltk7, ltk8, ltk9, *]))
    have zl23_0 : bx < v23.heap.size := by omega
    have zl23_1 : by2 < v23.heap.size := by omega
    have zl23_2 : bz < v23.heap.size := by omega
    have zl23_3 : v21.heap.size < v23.heap.size := by omega
    have hB23 : Below w.heap.size w v23 := Below.trans (by (repeat (first | with_reducible exact hB22 | (with_reducible refine bext ?_ _ _) | (with_reducible refine below_drewN ?_ _) | (with_reducible refine Below.drew ?_) | (with_reducible refine bal ?_ _) | (with_reducible refine bset ?_ (by first | omega | (simp <;> omega)) _)))) (hb23.mono (by first | omega | (simp [ext_size]; try omega)))
    have zw23 := hB23.size
    clear hb23
    clear cc22_0 cc22_1 cc22_2 cc22_3 cc22_4 cc22_5 cc22_6 cc22_7 zl22_0 zl22_1 zl22_2 zl22_3 zz22 zw22 hB22
    go_wp2
    go_ret
    exact ⟨rfl, by (repeat (first | with_reducible exact hB23 | (with_reducible refine bext ?_ _ _) | (with_reducible refine below_drewN ?_ _) | (with_reducible refine Below.drew ?_) | (with_reducible refine bal ?_ _) | (with_reducible refine bset ?_ (by first | omega | (simp <;> omega)) _)))⟩
theorem apart6 (s t : ByteArray) (ra da rb db tk by' : Int) (w : World) :
    Calls Try.prog 6 #[.agg #[.string s, .int .i64 ra, .int .i64 da], .agg #[.string t, .int .i64 rb, .int .i64 db], .int .i64 tk, .int .i64 by'] w fun x w' => x = .returned (.bool true) ∧ Below w.heap.size w w' := by
  by_cases h1 : ftB s ra da tk = true
  · by_cases h2 : ftB t rb db tk = true
    · by_cases h3 : by' < 0
      · exact apart6_out s t ra da rb db tk by' (Or.inr ⟨h1, Or.inr ⟨h2, Or.inl h3⟩⟩) w
      · by_cases h4 : 720 ≤ by'
        · exact apart6_out s t ra da rb db tk by' (Or.inr ⟨h1, Or.inr ⟨h2, Or.inr h4⟩⟩) w
        · exact apart6_main s t ra da rb db tk by' h1 h2 h3 h4 w
    · exact apart6_out s t ra da rb db tk by' (Or.inr ⟨h1, Or.inl (by simpa using h2)⟩) w
  · exact apart6_out s t ra da rb db tk by' (Or.inl (by simpa using h1)) w
end Go.Proofs.Ytmjbeplcabomdaa
