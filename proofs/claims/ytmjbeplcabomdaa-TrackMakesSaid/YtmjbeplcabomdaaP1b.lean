/-
  The reference of track: paths that are none.
-/
import Derived.Test.YtmjbeplcabomdaaP1a
namespace Go.Proofs.Ytmjbeplcabomdaa
open Go.RowKit
set_option linter.unusedVariables false
set_option linter.unusedSimpArgs false

set_option maxRecDepth 100000 in
set_option maxHeartbeats 3200000 in
theorem ref6_Path_no (s : ByteArray) (ra dec fr st many : Int) (hE : ¬ paE s ra dec fr st many = 0) (w : World) :
    Calls Try.prog 19 #[.agg #[.string s, .int .i64 ra, .int .i64 dec], .int .i64 fr, .int .i64 st, .int .i64 many] w fun e w' => e = .returned (.tuple #[.slice none 0 0, .int .i64 (paE s ra dec fr st many)]) ∧ Below w.heap.size w w' := by
  have A1 := fun w => ref6_Check s ra dec w
  unfold paE at *
  by_cases h1 : srE s ra dec = 0
  · rw [h1] at A1
    rw [if_pos h1] at *
    clear h1
    by_cases h2 : many < 0
    · have g2 : (many < 0) = True := eq_true h2
      rw [if_pos h2]
      clear hE h2
      have dAl := dAl; have dSt := dSt; have xC := ext_cell; have xF := ext_frozen; have xS := ext_set; have xN := ext_drewN; have xD := ext_drew; have xL := ext_lt; have xE := ext_ne; have xG := ext_nr; have xX := ext_ext; have xL1 := ext_lt1; have xL2 := ext_lt2; have xL3 := ext_lt3; have xM0 := ext_le0; have xM1 := ext_le1; have xM2 := ext_le2
      go_enter Try.func19, Try.ntmps19
      go_wp2_with fail
      with_reducible refine (A1 _).mono ?_
      rintro e v1 ⟨rfl, hb1⟩
      have zz1 := hb1.size
      try simp [ext_size] at zz1
      have cc1_0 : v1.cell? ⟨w.heap.size, 0, none⟩ = some (.string s) := (hb1.cell (p := ⟨w.heap.size, 0, none⟩) (by first | omega | (simp [ext_size]; try omega))).trans (by (simp (maxDischargeDepth := 8) [go_sem, World.cell?_alloc_past, ltk2, ltk3, ltk4, ltk5, ltk6, ltk7, ltk8, ltk9, *]))
      have cc1_1 : v1.cell? ⟨w.heap.size, 1, none⟩ = some (.int .i64 ra) := (hb1.cell (p := ⟨w.heap.size, 1, none⟩) (by first | omega | (simp [ext_size]; try omega))).trans (by (simp (maxDischargeDepth := 8) [go_sem, World.cell?_alloc_past, ltk2, ltk3, ltk4, ltk5, ltk6, ltk7, ltk8, ltk9, *]))
      have cc1_2 : v1.cell? ⟨w.heap.size, 2, none⟩ = some (.int .i64 dec) := (hb1.cell (p := ⟨w.heap.size, 2, none⟩) (by first | omega | (simp [ext_size]; try omega))).trans (by (simp (maxDischargeDepth := 8) [go_sem, World.cell?_alloc_past, ltk2, ltk3, ltk4, ltk5, ltk6, ltk7, ltk8, ltk9, *]))
      have zl1_0 : w.heap.size < v1.heap.size := by omega
      have hB1 : Below w.heap.size w v1 := Below.trans (by (repeat (first | with_reducible exact b0 _ | (with_reducible refine bext ?_ _ _) | (with_reducible refine below_drewN ?_ _) | (with_reducible refine Below.drew ?_) | (with_reducible refine bal ?_ _)))) (hb1.mono (by first | omega | (simp [ext_size]; try omega)))
      have zw1 := hB1.size
      clear hb1
      clear dAl dSt xC xF xS xN xD xL xE xG xX xL1 xL2 xL3 xM0 xM1 xM2 A1
      go_wp2
      go_ret2
      exact ⟨rfl, by (repeat (first | with_reducible exact hB1 | (with_reducible refine bext ?_ _ _) | (with_reducible refine below_drewN ?_ _) | (with_reducible refine Below.drew ?_) | (with_reducible refine bal ?_ _) | (with_reducible refine bset ?_ (by first | omega | (simp <;> omega)) _)))⟩
    rw [if_neg h2] at *
    have g2 : (many < 0) = False := eq_false h2
    by_cases h3 : 100 < many
    · have g3 : (100 < many) = True := eq_true h3
      rw [if_pos h3]
      clear hE h2 h3
      have dAl := dAl; have dSt := dSt; have xC := ext_cell; have xF := ext_frozen; have xS := ext_set; have xN := ext_drewN; have xD := ext_drew; have xL := ext_lt; have xE := ext_ne; have xG := ext_nr; have xX := ext_ext; have xL1 := ext_lt1; have xL2 := ext_lt2; have xL3 := ext_lt3; have xM0 := ext_le0; have xM1 := ext_le1; have xM2 := ext_le2
      go_enter Try.func19, Try.ntmps19
      go_wp2_with fail
      with_reducible refine (A1 _).mono ?_
      rintro e v1 ⟨rfl, hb1⟩
      have zz1 := hb1.size
      try simp [ext_size] at zz1
      have cc1_0 : v1.cell? ⟨w.heap.size, 0, none⟩ = some (.string s) := (hb1.cell (p := ⟨w.heap.size, 0, none⟩) (by first | omega | (simp [ext_size]; try omega))).trans (by (simp (maxDischargeDepth := 8) [go_sem, World.cell?_alloc_past, ltk2, ltk3, ltk4, ltk5, ltk6, ltk7, ltk8, ltk9, *]))
      have cc1_1 : v1.cell? ⟨w.heap.size, 1, none⟩ = some (.int .i64 ra) := (hb1.cell (p := ⟨w.heap.size, 1, none⟩) (by first | omega | (simp [ext_size]; try omega))).trans (by (simp (maxDischargeDepth := 8) [go_sem, World.cell?_alloc_past, ltk2, ltk3, ltk4, ltk5, ltk6, ltk7, ltk8, ltk9, *]))
      have cc1_2 : v1.cell? ⟨w.heap.size, 2, none⟩ = some (.int .i64 dec) := (hb1.cell (p := ⟨w.heap.size, 2, none⟩) (by first | omega | (simp [ext_size]; try omega))).trans (by (simp (maxDischargeDepth := 8) [go_sem, World.cell?_alloc_past, ltk2, ltk3, ltk4, ltk5, ltk6, ltk7, ltk8, ltk9, *]))
      have zl1_0 : w.heap.size < v1.heap.size := by omega
      have hB1 : Below w.heap.size w v1 := Below.trans (by (repeat (first | with_reducible exact b0 _ | (with_reducible refine bext ?_ _ _) | (with_reducible refine below_drewN ?_ _) | (with_reducible refine Below.drew ?_) | (with_reducible refine bal ?_ _)))) (hb1.mono (by first | omega | (simp [ext_size]; try omega)))
      have zw1 := hB1.size
      clear hb1
      clear dAl dSt xC xF xS xN xD xL xE xG xX xL1 xL2 xL3 xM0 xM1 xM2 A1
      go_wp2
      go_ret2
      exact ⟨rfl, by (repeat (first | with_reducible exact hB1 | (with_reducible refine bext ?_ _ _) | (with_reducible refine below_drewN ?_ _) | (with_reducible refine Below.drew ?_) | (with_reducible refine bal ?_ _) | (with_reducible refine bset ?_ (by first | omega | (simp <;> omega)) _)))⟩
    rw [if_neg h3] at *
    have g3 : (100 < many) = False := eq_false h3
    by_cases h4 : st < 1
    · have g4 : (st < 1) = True := eq_true h4
      rw [if_pos h4]
      clear hE h2 h3 h4
      have dAl := dAl; have dSt := dSt; have xC := ext_cell; have xF := ext_frozen; have xS := ext_set; have xN := ext_drewN; have xD := ext_drew; have xL := ext_lt; have xE := ext_ne; have xG := ext_nr; have xX := ext_ext; have xL1 := ext_lt1; have xL2 := ext_lt2; have xL3 := ext_lt3; have xM0 := ext_le0; have xM1 := ext_le1; have xM2 := ext_le2
      go_enter Try.func19, Try.ntmps19
      go_wp2_with fail
      with_reducible refine (A1 _).mono ?_
      rintro e v1 ⟨rfl, hb1⟩
      have zz1 := hb1.size
      try simp [ext_size] at zz1
      have cc1_0 : v1.cell? ⟨w.heap.size, 0, none⟩ = some (.string s) := (hb1.cell (p := ⟨w.heap.size, 0, none⟩) (by first | omega | (simp [ext_size]; try omega))).trans (by (simp (maxDischargeDepth := 8) [go_sem, World.cell?_alloc_past, ltk2, ltk3, ltk4, ltk5, ltk6, ltk7, ltk8, ltk9, *]))
      have cc1_1 : v1.cell? ⟨w.heap.size, 1, none⟩ = some (.int .i64 ra) := (hb1.cell (p := ⟨w.heap.size, 1, none⟩) (by first | omega | (simp [ext_size]; try omega))).trans (by (simp (maxDischargeDepth := 8) [go_sem, World.cell?_alloc_past, ltk2, ltk3, ltk4, ltk5, ltk6, ltk7, ltk8, ltk9, *]))
      have cc1_2 : v1.cell? ⟨w.heap.size, 2, none⟩ = some (.int .i64 dec) := (hb1.cell (p := ⟨w.heap.size, 2, none⟩) (by first | omega | (simp [ext_size]; try omega))).trans (by (simp (maxDischargeDepth := 8) [go_sem, World.cell?_alloc_past, ltk2, ltk3, ltk4, ltk5, ltk6, ltk7, ltk8, ltk9, *]))
      have zl1_0 : w.heap.size < v1.heap.size := by omega
      have hB1 : Below w.heap.size w v1 := Below.trans (by (repeat (first | with_reducible exact b0 _ | (with_reducible refine bext ?_ _ _) | (with_reducible refine below_drewN ?_ _) | (with_reducible refine Below.drew ?_) | (with_reducible refine bal ?_ _)))) (hb1.mono (by first | omega | (simp [ext_size]; try omega)))
      have zw1 := hB1.size
      clear hb1
      clear dAl dSt xC xF xS xN xD xL xE xG xX xL1 xL2 xL3 xM0 xM1 xM2 A1
      go_wp2
      go_ret2
      exact ⟨rfl, by (repeat (first | with_reducible exact hB1 | (with_reducible refine bext ?_ _ _) | (with_reducible refine below_drewN ?_ _) | (with_reducible refine Below.drew ?_) | (with_reducible refine bal ?_ _) | (with_reducible refine bset ?_ (by first | omega | (simp <;> omega)) _)))⟩
    rw [if_neg h4] at *
    have g4 : (st < 1) = False := eq_false h4
    by_cases h5 : 720 < st
    · have g5 : (720 < st) = True := eq_true h5
      rw [if_pos h5]
      clear hE h2 h3 h4 h5
      have dAl := dAl; have dSt := dSt; have xC := ext_cell; have xF := ext_frozen; have xS := ext_set; have xN := ext_drewN; have xD := ext_drew; have xL := ext_lt; have xE := ext_ne; have xG := ext_nr; have xX := ext_ext; have xL1 := ext_lt1; have xL2 := ext_lt2; have xL3 := ext_lt3; have xM0 := ext_le0; have xM1 := ext_le1; have xM2 := ext_le2
      go_enter Try.func19, Try.ntmps19
      go_wp2_with fail
      with_reducible refine (A1 _).mono ?_
      rintro e v1 ⟨rfl, hb1⟩
      have zz1 := hb1.size
      try simp [ext_size] at zz1
      have cc1_0 : v1.cell? ⟨w.heap.size, 0, none⟩ = some (.string s) := (hb1.cell (p := ⟨w.heap.size, 0, none⟩) (by first | omega | (simp [ext_size]; try omega))).trans (by (simp (maxDischargeDepth := 8) [go_sem, World.cell?_alloc_past, ltk2, ltk3, ltk4, ltk5, ltk6, ltk7, ltk8, ltk9, *]))
      have cc1_1 : v1.cell? ⟨w.heap.size, 1, none⟩ = some (.int .i64 ra) := (hb1.cell (p := ⟨w.heap.size, 1, none⟩) (by first | omega | (simp [ext_size]; try omega))).trans (by (simp (maxDischargeDepth := 8) [go_sem, World.cell?_alloc_past, ltk2, ltk3, ltk4, ltk5, ltk6, ltk7, ltk8, ltk9, *]))
      have cc1_2 : v1.cell? ⟨w.heap.size, 2, none⟩ = some (.int .i64 dec) := (hb1.cell (p := ⟨w.heap.size, 2, none⟩) (by first | omega | (simp [ext_size]; try omega))).trans (by (simp (maxDischargeDepth := 8) [go_sem, World.cell?_alloc_past, ltk2, ltk3, ltk4, ltk5, ltk6, ltk7, ltk8, ltk9, *]))
      have zl1_0 : w.heap.size < v1.heap.size := by omega
      have hB1 : Below w.heap.size w v1 := Below.trans (by (repeat (first | with_reducible exact b0 _ | (with_reducible refine bext ?_ _ _) | (with_reducible refine below_drewN ?_ _) | (with_reducible refine Below.drew ?_) | (with_reducible refine bal ?_ _)))) (hb1.mono (by first | omega | (simp [ext_size]; try omega)))
      have zw1 := hB1.size
      clear hb1
      clear dAl dSt xC xF xS xN xD xL xE xG xX xL1 xL2 xL3 xM0 xM1 xM2 A1
      go_wp2
      go_ret2
      exact ⟨rfl, by (repeat (first | with_reducible exact hB1 | (with_reducible refine bext ?_ _ _) | (with_reducible refine below_drewN ?_ _) | (with_reducible refine Below.drew ?_) | (with_reducible refine bal ?_ _) | (with_reducible refine bset ?_ (by first | omega | (simp <;> omega)) _)))⟩
    rw [if_neg h5] at *
    have g5 : (720 < st) = False := eq_false h5
    have A2 := fun w => ref6_Tick fr w
    by_cases h6 : tkB fr = true
    · rw [if_pos h6] at *
      obtain ⟨f1, f2⟩ := tk_out h6
      rw [h6] at A2
      have A3 := fun w => ref6_Tick (lastT fr st many) w
      have h7 : tkB (lastT fr st many) = false := by
        by_cases h7 : tkB (lastT fr st many) = true
        · rw [if_pos h7] at hE; exact absurd rfl hE
        · simpa using h7
      rw [h7] at A3
      rw [if_neg (by simp [h7])]
      unfold lastT at A3
      obtain ⟨m0, m1, mz, mn⟩ := ma_bd h2 h3
      obtain ⟨q0, q1⟩ := st_bd h4 h5 m0 m1
      have hm0 : ¬ many = 0 := by
        intro e0
        rw [lastT, mz e0, Int.mul_zero, Int.add_zero] at h7
        rw [h6] at h7; exact absurd h7 (by decide)
      have hmm := mn hm0
      rw [hmm] at A3 q0 q1
      have hp : (0 < many) = True := by simp; omega
      clear h6 h7 hE h2 h3 h4 h5 mz mn m0 m1 hmm
      have hc : (many - 1) * st = st * (many - 1) := Int.mul_comm _ _
      generalize hq : st * (many - 1) = q at *
      have w1 : -9223372036854775808 ≤ fr + q := by omega
      have w2 : fr + q ≤ 9223372036854775807 := by omega
      have g6 : ¬ many < 0 := by rw [g2]; exact id
      have g7 : ¬ 100 < many := by rw [g3]; exact id
      have dAl := dAl; have dSt := dSt; have xC := ext_cell; have xF := ext_frozen; have xS := ext_set; have xN := ext_drewN; have xD := ext_drew; have xL := ext_lt; have xE := ext_ne; have xG := ext_nr; have xX := ext_ext; have xL1 := ext_lt1; have xL2 := ext_lt2; have xL3 := ext_lt3; have xM0 := ext_le0; have xM1 := ext_le1; have xM2 := ext_le2
      go_enter Try.func19, Try.ntmps19
      go_wp2_with fail
      with_reducible refine (A1 _).mono ?_
      rintro e v1 ⟨rfl, hb1⟩
      have zz1 := hb1.size
      try simp [ext_size] at zz1
      have cc1_0 : v1.cell? ⟨w.heap.size, 0, none⟩ = some (.string s) := (hb1.cell (p := ⟨w.heap.size, 0, none⟩) (by first | omega | (simp [ext_size]; try omega))).trans (by (simp (maxDischargeDepth := 8) [go_sem, World.cell?_alloc_past, ltk2, ltk3, ltk4, ltk5, ltk6, ltk7, ltk8, ltk9, *]))
      have cc1_1 : v1.cell? ⟨w.heap.size, 1, none⟩ = some (.int .i64 ra) := (hb1.cell (p := ⟨w.heap.size, 1, none⟩) (by first | omega | (simp [ext_size]; try omega))).trans (by (simp (maxDischargeDepth := 8) [go_sem, World.cell?_alloc_past, ltk2, ltk3, ltk4, ltk5, ltk6, ltk7, ltk8, ltk9, *]))
      have cc1_2 : v1.cell? ⟨w.heap.size, 2, none⟩ = some (.int .i64 dec) := (hb1.cell (p := ⟨w.heap.size, 2, none⟩) (by first | omega | (simp [ext_size]; try omega))).trans (by (simp (maxDischargeDepth := 8) [go_sem, World.cell?_alloc_past, ltk2, ltk3, ltk4, ltk5, ltk6, ltk7, ltk8, ltk9, *]))
      have zl1_0 : w.heap.size < v1.heap.size := by omega
      have hB1 : Below w.heap.size w v1 := Below.trans (by (repeat (first | with_reducible exact b0 _ | (with_reducible refine bext ?_ _ _) | (with_reducible refine below_drewN ?_ _) | (with_reducible refine Below.drew ?_) | (with_reducible refine bal ?_ _)))) (hb1.mono (by first | omega | (simp [ext_size]; try omega)))
      have zw1 := hB1.size
      clear hb1
      go_wp2_with fail
      with_reducible refine (A2 _).mono ?_
      rintro e v2 ⟨rfl, hb2⟩
      have zz2 := hb2.size
      try simp [ext_size] at zz2
      have cc2_0 : v2.cell? ⟨w.heap.size, 0, none⟩ = some (.string s) := (hb2.cell (p := ⟨w.heap.size, 0, none⟩) (by first | omega | (simp [ext_size]; try omega))).trans (by (simp (maxDischargeDepth := 8) [go_sem, World.cell?_alloc_past, ltk2, ltk3, ltk4, ltk5, ltk6, ltk7, ltk8, ltk9, *]))
      have cc2_1 : v2.cell? ⟨w.heap.size, 1, none⟩ = some (.int .i64 ra) := (hb2.cell (p := ⟨w.heap.size, 1, none⟩) (by first | omega | (simp [ext_size]; try omega))).trans (by (simp (maxDischargeDepth := 8) [go_sem, World.cell?_alloc_past, ltk2, ltk3, ltk4, ltk5, ltk6, ltk7, ltk8, ltk9, *]))
      have cc2_2 : v2.cell? ⟨w.heap.size, 2, none⟩ = some (.int .i64 dec) := (hb2.cell (p := ⟨w.heap.size, 2, none⟩) (by first | omega | (simp [ext_size]; try omega))).trans (by (simp (maxDischargeDepth := 8) [go_sem, World.cell?_alloc_past, ltk2, ltk3, ltk4, ltk5, ltk6, ltk7, ltk8, ltk9, *]))
      have zl2_0 : w.heap.size < v2.heap.size := by omega
      have hB2 : Below w.heap.size w v2 := Below.trans (by (repeat (first | with_reducible exact hB1 | (with_reducible refine bext ?_ _ _) | (with_reducible refine below_drewN ?_ _) | (with_reducible refine Below.drew ?_) | (with_reducible refine bal ?_ _) | (with_reducible refine bset ?_ (by first | omega | (simp <;> omega)) _)))) (hb2.mono (by first | omega | (simp [ext_size]; try omega)))
      have zw2 := hB2.size
      clear hb2
      clear cc1_0 cc1_1 cc1_2 zl1_0 zz1 zw1 hB1
      go_wp2_with fail
      with_reducible refine (A3 _).mono ?_
      rintro e v3 ⟨rfl, hb3⟩
      have zz3 := hb3.size
      try simp [ext_size] at zz3
      have cc3_0 : v3.cell? ⟨w.heap.size, 0, none⟩ = some (.string s) := (hb3.cell (p := ⟨w.heap.size, 0, none⟩) (by first | omega | (simp [ext_size]; try omega))).trans (by (simp (maxDischargeDepth := 8) [go_sem, World.cell?_alloc_past, ltk2, ltk3, ltk4, ltk5, ltk6, ltk7, ltk8, ltk9, *]))
      have cc3_1 : v3.cell? ⟨w.heap.size, 1, none⟩ = some (.int .i64 ra) := (hb3.cell (p := ⟨w.heap.size, 1, none⟩) (by first | omega | (simp [ext_size]; try omega))).trans (by (simp (maxDischargeDepth := 8) [go_sem, World.cell?_alloc_past, ltk2, ltk3, ltk4, ltk5, ltk6, ltk7, ltk8, ltk9, *]))
      have cc3_2 : v3.cell? ⟨w.heap.size, 2, none⟩ = some (.int .i64 dec) := (hb3.cell (p := ⟨w.heap.size, 2, none⟩) (by first | omega | (simp [ext_size]; try omega))).trans (by (simp (maxDischargeDepth := 8) [go_sem, World.cell?_alloc_past, ltk2, ltk3, ltk4, ltk5, ltk6, ltk7, ltk8, ltk9, *]))
      have zl3_0 : w.heap.size < v3.heap.size := by omega
      have hB3 : Below w.heap.size w v3 := Below.trans (by (repeat (first | with_reducible exact hB2 | (with_reducible refine bext ?_ _ _) | (with_reducible refine below_drewN ?_ _) | (with_reducible refine Below.drew ?_) | (with_reducible refine bal ?_ _) | (with_reducible refine bset ?_ (by first | omega | (simp <;> omega)) _)))) (hb3.mono (by first | omega | (simp [ext_size]; try omega)))
      have zw3 := hB3.size
      clear hb3
      clear cc2_0 cc2_1 cc2_2 zl2_0 zz2 zw2 hB2
      clear dAl dSt xC xF xS xN xD xL xE xG xX xL1 xL2 xL3 xM0 xM1 xM2 A1 A2 A3
      go_wp2
      go_ret2
      exact ⟨rfl, by (repeat (first | with_reducible exact hB3 | (with_reducible refine bext ?_ _ _) | (with_reducible refine below_drewN ?_ _) | (with_reducible refine Below.drew ?_) | (with_reducible refine bal ?_ _) | (with_reducible refine bset ?_ (by first | omega | (simp <;> omega)) _)))⟩
    · have h6' : tkB fr = false := by simpa using h6
      rw [if_neg h6]
      rw [h6'] at A2
      clear hE h2 h3 h4 h5 h6 h6'
      have dAl := dAl; have dSt := dSt; have xC := ext_cell; have xF := ext_frozen; have xS := ext_set; have xN := ext_drewN; have xD := ext_drew; have xL := ext_lt; have xE := ext_ne; have xG := ext_nr; have xX := ext_ext; have xL1 := ext_lt1; have xL2 := ext_lt2; have xL3 := ext_lt3; have xM0 := ext_le0; have xM1 := ext_le1; have xM2 := ext_le2
      go_enter Try.func19, Try.ntmps19
      go_wp2_with fail
      with_reducible refine (A1 _).mono ?_
      rintro e v1 ⟨rfl, hb1⟩
      have zz1 := hb1.size
      try simp [ext_size] at zz1
      have cc1_0 : v1.cell? ⟨w.heap.size, 0, none⟩ = some (.string s) := (hb1.cell (p := ⟨w.heap.size, 0, none⟩) (by first | omega | (simp [ext_size]; try omega))).trans (by (simp (maxDischargeDepth := 8) [go_sem, World.cell?_alloc_past, ltk2, ltk3, ltk4, ltk5, ltk6, ltk7, ltk8, ltk9, *]))
      have cc1_1 : v1.cell? ⟨w.heap.size, 1, none⟩ = some (.int .i64 ra) := (hb1.cell (p := ⟨w.heap.size, 1, none⟩) (by first | omega | (simp [ext_size]; try omega))).trans (by (simp (maxDischargeDepth := 8) [go_sem, World.cell?_alloc_past, ltk2, ltk3, ltk4, ltk5, ltk6, ltk7, ltk8, ltk9, *]))
      have cc1_2 : v1.cell? ⟨w.heap.size, 2, none⟩ = some (.int .i64 dec) := (hb1.cell (p := ⟨w.heap.size, 2, none⟩) (by first | omega | (simp [ext_size]; try omega))).trans (by (simp (maxDischargeDepth := 8) [go_sem, World.cell?_alloc_past, ltk2, ltk3, ltk4, ltk5, ltk6, ltk7, ltk8, ltk9, *]))
      have zl1_0 : w.heap.size < v1.heap.size := by omega
      have hB1 : Below w.heap.size w v1 := Below.trans (by (repeat (first | with_reducible exact b0 _ | (with_reducible refine bext ?_ _ _) | (with_reducible refine below_drewN ?_ _) | (with_reducible refine Below.drew ?_) | (with_reducible refine bal ?_ _)))) (hb1.mono (by first | omega | (simp [ext_size]; try omega)))
      have zw1 := hB1.size
      clear hb1
      go_wp2_with fail
      with_reducible refine (A2 _).mono ?_
      rintro e v2 ⟨rfl, hb2⟩
      have zz2 := hb2.size
      try simp [ext_size] at zz2
      have cc2_0 : v2.cell? ⟨w.heap.size, 0, none⟩ = some (.string s) := (hb2.cell (p := ⟨w.heap.size, 0, none⟩) (by first | omega | (simp [ext_size]; try omega))).trans (by (simp (maxDischargeDepth := 8) [go_sem, World.cell?_alloc_past, ltk2, ltk3, ltk4, ltk5, ltk6, ltk7, ltk8, ltk9, *]))
      have cc2_1 : v2.cell? ⟨w.heap.size, 1, none⟩ = some (.int .i64 ra) := (hb2.cell (p := ⟨w.heap.size, 1, none⟩) (by first | omega | (simp [ext_size]; try omega))).trans (by (simp (maxDischargeDepth := 8) [go_sem, World.cell?_alloc_past, ltk2, ltk3, ltk4, ltk5, ltk6, ltk7, ltk8, ltk9, *]))
      have cc2_2 : v2.cell? ⟨w.heap.size, 2, none⟩ = some (.int .i64 dec) := (hb2.cell (p := ⟨w.heap.size, 2, none⟩) (by first | omega | (simp [ext_size]; try omega))).trans (by (simp (maxDischargeDepth := 8) [go_sem, World.cell?_alloc_past, ltk2, ltk3, ltk4, ltk5, ltk6, ltk7, ltk8, ltk9, *]))
      have zl2_0 : w.heap.size < v2.heap.size := by omega
      have hB2 : Below w.heap.size w v2 := Below.trans (by (repeat (first | with_reducible exact hB1 | (with_reducible refine bext ?_ _ _) | (with_reducible refine below_drewN ?_ _) | (with_reducible refine Below.drew ?_) | (with_reducible refine bal ?_ _) | (with_reducible refine bset ?_ (by first | omega | (simp <;> omega)) _)))) (hb2.mono (by first | omega | (simp [ext_size]; try omega)))
      have zw2 := hB2.size
      clear hb2
      clear cc1_0 cc1_1 cc1_2 zl1_0 zz1 zw1 hB1
      clear dAl dSt xC xF xS xN xD xL xE xG xX xL1 xL2 xL3 xM0 xM1 xM2 A1 A2
      go_wp2
      go_ret2
      exact ⟨rfl, by (repeat (first | with_reducible exact hB2 | (with_reducible refine bext ?_ _ _) | (with_reducible refine below_drewN ?_ _) | (with_reducible refine Below.drew ?_) | (with_reducible refine bal ?_ _) | (with_reducible refine bset ?_ (by first | omega | (simp <;> omega)) _)))⟩
  · have h8 : srE s ra dec = 8 := (srE_or s ra dec).resolve_left h1
    rw [h8] at A1
    rw [if_neg h1] at *
    clear hE h1 h8
    have dAl := dAl; have dSt := dSt; have xC := ext_cell; have xF := ext_frozen; have xS := ext_set; have xN := ext_drewN; have xD := ext_drew; have xL := ext_lt; have xE := ext_ne; have xG := ext_nr; have xX := ext_ext; have xL1 := ext_lt1; have xL2 := ext_lt2; have xL3 := ext_lt3; have xM0 := ext_le0; have xM1 := ext_le1; have xM2 := ext_le2
    go_enter Try.func19, Try.ntmps19
    go_wp2_with fail
    with_reducible refine (A1 _).mono ?_
    rintro e v1 ⟨rfl, hb1⟩
    have zz1 := hb1.size
    try simp [ext_size] at zz1
    have cc1_0 : v1.cell? ⟨w.heap.size, 0, none⟩ = some (.string s) := (hb1.cell (p := ⟨w.heap.size, 0, none⟩) (by first | omega | (simp [ext_size]; try omega))).trans (by (simp (maxDischargeDepth := 8) [go_sem, World.cell?_alloc_past, ltk2, ltk3, ltk4, ltk5, ltk6, ltk7, ltk8, ltk9, *]))
    have cc1_1 : v1.cell? ⟨w.heap.size, 1, none⟩ = some (.int .i64 ra) := (hb1.cell (p := ⟨w.heap.size, 1, none⟩) (by first | omega | (simp [ext_size]; try omega))).trans (by (simp (maxDischargeDepth := 8) [go_sem, World.cell?_alloc_past, ltk2, ltk3, ltk4, ltk5, ltk6, ltk7, ltk8, ltk9, *]))
    have cc1_2 : v1.cell? ⟨w.heap.size, 2, none⟩ = some (.int .i64 dec) := (hb1.cell (p := ⟨w.heap.size, 2, none⟩) (by first | omega | (simp [ext_size]; try omega))).trans (by (simp (maxDischargeDepth := 8) [go_sem, World.cell?_alloc_past, ltk2, ltk3, ltk4, ltk5, ltk6, ltk7, ltk8, ltk9, *]))
    have zl1_0 : w.heap.size < v1.heap.size := by omega
    have hB1 : Below w.heap.size w v1 := Below.trans (by (repeat (first | with_reducible exact b0 _ | (with_reducible refine bext ?_ _ _) | (with_reducible refine below_drewN ?_ _) | (with_reducible refine Below.drew ?_) | (with_reducible refine bal ?_ _)))) (hb1.mono (by first | omega | (simp [ext_size]; try omega)))
    have zw1 := hB1.size
    clear hb1
    go_wp2_with fail
    with_reducible refine (A1 _).mono ?_
    rintro e v2 ⟨rfl, hb2⟩
    have zz2 := hb2.size
    try simp [ext_size] at zz2
    have cc2_0 : v2.cell? ⟨w.heap.size, 0, none⟩ = some (.string s) := (hb2.cell (p := ⟨w.heap.size, 0, none⟩) (by first | omega | (simp [ext_size]; try omega))).trans (by (simp (maxDischargeDepth := 8) [go_sem, World.cell?_alloc_past, ltk2, ltk3, ltk4, ltk5, ltk6, ltk7, ltk8, ltk9, *]))
    have cc2_1 : v2.cell? ⟨w.heap.size, 1, none⟩ = some (.int .i64 ra) := (hb2.cell (p := ⟨w.heap.size, 1, none⟩) (by first | omega | (simp [ext_size]; try omega))).trans (by (simp (maxDischargeDepth := 8) [go_sem, World.cell?_alloc_past, ltk2, ltk3, ltk4, ltk5, ltk6, ltk7, ltk8, ltk9, *]))
    have cc2_2 : v2.cell? ⟨w.heap.size, 2, none⟩ = some (.int .i64 dec) := (hb2.cell (p := ⟨w.heap.size, 2, none⟩) (by first | omega | (simp [ext_size]; try omega))).trans (by (simp (maxDischargeDepth := 8) [go_sem, World.cell?_alloc_past, ltk2, ltk3, ltk4, ltk5, ltk6, ltk7, ltk8, ltk9, *]))
    have zl2_0 : w.heap.size < v2.heap.size := by omega
    have hB2 : Below w.heap.size w v2 := Below.trans (by (repeat (first | with_reducible exact hB1 | (with_reducible refine bext ?_ _ _) | (with_reducible refine below_drewN ?_ _) | (with_reducible refine Below.drew ?_) | (with_reducible refine bal ?_ _) | (with_reducible refine bset ?_ (by first | omega | (simp <;> omega)) _)))) (hb2.mono (by first | omega | (simp [ext_size]; try omega)))
    have zw2 := hB2.size
    clear hb2
    clear cc1_0 cc1_1 cc1_2 zl1_0 zz1 zw1 hB1
    clear dAl dSt xC xF xS xN xD xL xE xG xX xL1 xL2 xL3 xM0 xM1 xM2 A1
    go_wp2
    go_ret2
    exact ⟨rfl, by (repeat (first | with_reducible exact hB2 | (with_reducible refine bext ?_ _ _) | (with_reducible refine below_drewN ?_ _) | (with_reducible refine Below.drew ?_) | (with_reducible refine bal ?_ _) | (with_reducible refine bset ?_ (by first | omega | (simp <;> omega)) _)))⟩
end Go.Proofs.Ytmjbeplcabomdaa
