/-
  SineNames, walked.
-/
import Derived.Test.YtilcgbloangcmaaSr
namespace Go.Proofs.Ytilcgbloangcmaa
open Go.RowKit
set_option linter.unusedVariables false
set_option linter.unusedSimpArgs false

set_option maxRecDepth 100000 in
set_option maxHeartbeats 12800000 in
theorem names5 (w : World) : Calls Try.prog 3 #[] w fun x w' => x = .returned (.bool true) ∧ Below w.heap.size w w' := by
  have A1 := fun w => law5_cos 0 1 1000000 1000000 (by omega) (by omega) (by decide +kernel) w
  have A2 := fun w => law5_cos 1 2 (-1000000) (-1000000) (by omega) (by omega) (by decide +kernel) w
  have A3 := fun w => law5_cos 1 4 0 0 (by omega) (by omega) (by decide +kernel) w
  have A4 := fun w => law5_cos 1 3 (-500000) (-500000) (by omega) (by omega) (by decide +kernel) w
  have A5 := fun w => law5_cos 1 5 309016 309017 (by omega) (by omega) (by decide +kernel) w
  have A6 := fun w => law5_cos 2 5 (-809017) (-809016) (by omega) (by omega) (by decide +kernel) w
  have A7 := fun w => law5_cos 1 12 866025 866026 (by omega) (by omega) (by decide +kernel) w
  have A8 := fun w => law5_sin 1 12 500000 500000 (by omega) (by omega) (by decide +kernel) w
  have A9 := fun w => law5_sin 1 8 707106 707107 (by omega) (by omega) (by decide +kernel) w
  have A10 := fun w => law5_sin 0 7 0 0 (by omega) (by omega) (by decide +kernel) w
  have A11 := fun w => law5_cos 1 720 999961 999962 (by omega) (by omega) (by decide +kernel) w
  have A12 := fun w => law5_sin 1 720 8726 8727 (by omega) (by omega) (by decide +kernel) w
  have A13 := fun w => law5_cos (-1) 6 500000 500000 (by omega) (by omega) (by decide +kernel) w
  have A14 := fun w => law5_cos 721 720 999961 999962 (by omega) (by omega) (by decide +kernel) w
  have A15 := fun w => law5_sin (-1) 8 (-707107) (-707106) (by omega) (by omega) (by decide +kernel) w
  have A16 := fun w => sine_Cos 0 0 (by omega) (by omega) w
  rw [show coL 0 0 = 0 by decide +kernel] at A16
  rw [show coH 0 0 = 0 by decide +kernel] at A16
  rw [show coE 0 = 2 by decide +kernel] at A16
  have A17 := fun w => sine_Sin 1 721 (by omega) (by omega) w
  rw [show siL 1 721 = 0 by decide +kernel] at A17
  rw [show siH 1 721 = 0 by decide +kernel] at A17
  rw [show coE 721 = 2 by decide +kernel] at A17
  have A18 := fun w => sine_Cos 1 (-1) (by omega) (by omega) w
  rw [show coL 1 (-1) = 0 by decide +kernel] at A18
  rw [show coH 1 (-1) = 0 by decide +kernel] at A18
  rw [show coE (-1) = 2 by decide +kernel] at A18
  have A19 := fun w => sine_Add 3000000000 3000000000 0 1 w
  rw [show saL 3000000000 3000000000 0 1 = 0 by decide +kernel] at A19
  rw [show saH 3000000000 3000000000 0 1 = 0 by decide +kernel] at A19
  rw [show saE 3000000000 3000000000 0 1 = 16 by decide +kernel] at A19
  have A20 := fun w => sine_Sub 0 0 (-3000000001) 0 w
  rw [show ssL 0 0 (-3000000001) 0 = 0 by decide +kernel] at A20
  rw [show ssH 0 0 (-3000000001) 0 = 0 by decide +kernel] at A20
  rw [show ssE 0 0 (-3000000001) 0 = 8 by decide +kernel] at A20
  have A21 := fun w => sine_Mul 3000000000 3000000000 1000001 1000001 w
  rw [show smL 3000000000 3000000000 1000001 1000001 = 0 by decide +kernel] at A21
  rw [show smH 3000000000 3000000000 1000001 1000001 = 0 by decide +kernel] at A21
  rw [show smE 3000000000 3000000000 1000001 1000001 = 16 by decide +kernel] at A21
  have A22 := fun w => sine_Mul 3000000000 3000000000 1 1000000 w
  rw [show smL 3000000000 3000000000 1 1000000 = 3000 by decide +kernel] at A22
  rw [show smH 3000000000 3000000000 1 1000000 = 3000000000 by decide +kernel] at A22
  rw [show smE 3000000000 3000000000 1 1000000 = 0 by decide +kernel] at A22
  have A23 := fun w => sine_Mul 1 0 3000000000 3000000000 w
  rw [show smL 1 0 3000000000 3000000000 = 0 by decide +kernel] at A23
  rw [show smH 1 0 3000000000 3000000000 = 0 by decide +kernel] at A23
  rw [show smE 1 0 3000000000 3000000000 = 8 by decide +kernel] at A23
  have A24 := fun w => sine_Of 3001 1 (by omega) (by omega) (by omega) (by omega) w
  rw [show ovL 3001 1 = 0 by decide +kernel] at A24
  rw [show ovH 3001 1 = 0 by decide +kernel] at A24
  rw [show ovE 3001 1 = 16 by decide +kernel] at A24
  have A25 := fun w => sine_Of (-3000) 1 (by omega) (by omega) (by omega) (by omega) w
  rw [show ovL (-3000) 1 = (-3000000000) by decide +kernel] at A25
  rw [show ovH (-3000) 1 = (-3000000000) by decide +kernel] at A25
  rw [show ovE (-3000) 1 = 0 by decide +kernel] at A25
  have A26 := fun w => sine_Of 0 0 (by omega) (by omega) (by omega) (by omega) w
  rw [show ovL 0 0 = 0 by decide +kernel] at A26
  rw [show ovH 0 0 = 0 by decide +kernel] at A26
  rw [show ovE 0 0 = 8 by decide +kernel] at A26
  have A27 := fun w => sine_Of (-1000000000000000000) 1 (by omega) (by omega) (by omega) (by omega) w
  rw [show ovL (-1000000000000000000) 1 = 0 by decide +kernel] at A27
  rw [show ovH (-1000000000000000000) 1 = 0 by decide +kernel] at A27
  rw [show ovE (-1000000000000000000) 1 = 16 by decide +kernel] at A27
  have A28 := fun w => sine_Of 1 1000000000000000000 (by omega) (by omega) (by omega) (by omega) w
  rw [show ovL 1 1000000000000000000 = 0 by decide +kernel] at A28
  rw [show ovH 1 1000000000000000000 = 1 by decide +kernel] at A28
  rw [show ovE 1 1000000000000000000 = 0 by decide +kernel] at A28
  have A29 := fun w => sine_Has 1 0 0 1 (by omega) (by omega) (by omega) (by omega) w
  rw [show haV 1 0 0 1 = false by decide +kernel] at A29
  rw [show haE 1 0 0 1 = 8 by decide +kernel] at A29
  have A30 := fun w => sine_Sign 1 0 w
  rw [show sgV 1 0 = 0 by decide +kernel] at A30
  rw [show sgE 1 0 = 8 by decide +kernel] at A30
  have A31 := fun w => sine_Sign 0 0 w
  rw [show sgV 0 0 = 0 by decide +kernel] at A31
  rw [show sgE 0 0 = 0 by decide +kernel] at A31
  have A32 := fun w => sine_Sign 0 1 w
  rw [show sgV 0 1 = 0 by decide +kernel] at A32
  rw [show sgE 0 1 = 24 by decide +kernel] at A32
  have A33 := fun w => sine_Has 333333 333334 1 3 (by omega) (by omega) (by omega) (by omega) w
  rw [show haV 333333 333334 1 3 = true by decide +kernel] at A33
  rw [show haE 333333 333334 1 3 = 0 by decide +kernel] at A33
  have A34 := fun w => sine_Has 333334 333334 1 3 (by omega) (by omega) (by omega) (by omega) w
  rw [show haV 333334 333334 1 3 = false by decide +kernel] at A34
  rw [show haE 333334 333334 1 3 = 0 by decide +kernel] at A34
  have A35 := fun w => law5_is 3000 3000000000 0 3000 3000000000 w
  rw [show decide ((0 : Int) = 0 ∧ (3000 : Int) = 3000 ∧ (3000000000 : Int) = 3000000000) = true by decide +kernel] at A35
  have A36 := fun w => law5_is (-3000000000) (-3000000000) 0 (-3000000000) (-3000000000) w
  rw [show decide ((0 : Int) = 0 ∧ ((-3000000000) : Int) = (-3000000000) ∧ ((-3000000000) : Int) = (-3000000000)) = true by decide +kernel] at A36
  have A37 := fun w => law5_is 0 1 0 0 1 w
  rw [show decide ((0 : Int) = 0 ∧ (0 : Int) = 0 ∧ (1 : Int) = 1) = true by decide +kernel] at A37
  have AL := fun w => law5_alive w
  have dAl := dAl; have dSt := dSt; have xC := ext_cell; have xF := ext_frozen; have xS := ext_set; have xN := ext_drewN; have xD := ext_drew; have xL := ext_lt; have xE := ext_ne; have xG := ext_nr; have xX := ext_ext; have xL1 := ext_lt1; have xL2 := ext_lt2; have xL3 := ext_lt3; have xM0 := ext_le0; have xM1 := ext_le1; have xM2 := ext_le2
  go_enter Try.func3, Try.ntmps3
  go_wp2_with fail
  with_reducible refine (A1 _).mono ?_
  rintro e v1 ⟨rfl, hb1⟩
  have zz1 := hb1.size
  try simp [ext_size] at zz1
  have hB1 : Below w.heap.size w v1 := Below.trans (by (repeat (first | with_reducible exact b0 _ | (with_reducible refine bext ?_ _ _) | (with_reducible refine below_drewN ?_ _) | (with_reducible refine Below.drew ?_) | (with_reducible refine bal ?_ _)))) (hb1.mono (by first | omega | (simp [ext_size]; try omega)))
  have zw1 := hB1.size
  clear hb1
  go_wp2_with fail
  with_reducible refine (A2 _).mono ?_
  rintro e v2 ⟨rfl, hb2⟩
  have zz2 := hb2.size
  try simp [ext_size] at zz2
  have hB2 : Below w.heap.size w v2 := Below.trans (by (repeat (first | with_reducible exact hB1 | (with_reducible refine bext ?_ _ _) | (with_reducible refine below_drewN ?_ _) | (with_reducible refine Below.drew ?_) | (with_reducible refine bal ?_ _) | (with_reducible refine bset ?_ (by first | omega | (simp <;> omega)) _)))) (hb2.mono (by first | omega | (simp [ext_size]; try omega)))
  have zw2 := hB2.size
  clear hb2
  clear zz1 zw1 hB1
  go_wp2_with fail
  with_reducible refine (A3 _).mono ?_
  rintro e v3 ⟨rfl, hb3⟩
  have zz3 := hb3.size
  try simp [ext_size] at zz3
  have hB3 : Below w.heap.size w v3 := Below.trans (by (repeat (first | with_reducible exact hB2 | (with_reducible refine bext ?_ _ _) | (with_reducible refine below_drewN ?_ _) | (with_reducible refine Below.drew ?_) | (with_reducible refine bal ?_ _) | (with_reducible refine bset ?_ (by first | omega | (simp <;> omega)) _)))) (hb3.mono (by first | omega | (simp [ext_size]; try omega)))
  have zw3 := hB3.size
  clear hb3
  clear zz2 zw2 hB2
  go_wp2_with fail
  with_reducible refine (A4 _).mono ?_
  rintro e v4 ⟨rfl, hb4⟩
  have zz4 := hb4.size
  try simp [ext_size] at zz4
  have hB4 : Below w.heap.size w v4 := Below.trans (by (repeat (first | with_reducible exact hB3 | (with_reducible refine bext ?_ _ _) | (with_reducible refine below_drewN ?_ _) | (with_reducible refine Below.drew ?_) | (with_reducible refine bal ?_ _) | (with_reducible refine bset ?_ (by first | omega | (simp <;> omega)) _)))) (hb4.mono (by first | omega | (simp [ext_size]; try omega)))
  have zw4 := hB4.size
  clear hb4
  clear zz3 zw3 hB3
  go_wp2_with fail
  with_reducible refine (A5 _).mono ?_
  rintro e v5 ⟨rfl, hb5⟩
  have zz5 := hb5.size
  try simp [ext_size] at zz5
  have hB5 : Below w.heap.size w v5 := Below.trans (by (repeat (first | with_reducible exact hB4 | (with_reducible refine bext ?_ _ _) | (with_reducible refine below_drewN ?_ _) | (with_reducible refine Below.drew ?_) | (with_reducible refine bal ?_ _) | (with_reducible refine bset ?_ (by first | omega | (simp <;> omega)) _)))) (hb5.mono (by first | omega | (simp [ext_size]; try omega)))
  have zw5 := hB5.size
  clear hb5
  clear zz4 zw4 hB4
  go_wp2_with fail
  with_reducible refine (A6 _).mono ?_
  rintro e v6 ⟨rfl, hb6⟩
  have zz6 := hb6.size
  try simp [ext_size] at zz6
  have hB6 : Below w.heap.size w v6 := Below.trans (by (repeat (first | with_reducible exact hB5 | (with_reducible refine bext ?_ _ _) | (with_reducible refine below_drewN ?_ _) | (with_reducible refine Below.drew ?_) | (with_reducible refine bal ?_ _) | (with_reducible refine bset ?_ (by first | omega | (simp <;> omega)) _)))) (hb6.mono (by first | omega | (simp [ext_size]; try omega)))
  have zw6 := hB6.size
  clear hb6
  clear zz5 zw5 hB5
  go_wp2_with fail
  with_reducible refine (A7 _).mono ?_
  rintro e v7 ⟨rfl, hb7⟩
  have zz7 := hb7.size
  try simp [ext_size] at zz7
  have hB7 : Below w.heap.size w v7 := Below.trans (by (repeat (first | with_reducible exact hB6 | (with_reducible refine bext ?_ _ _) | (with_reducible refine below_drewN ?_ _) | (with_reducible refine Below.drew ?_) | (with_reducible refine bal ?_ _) | (with_reducible refine bset ?_ (by first | omega | (simp <;> omega)) _)))) (hb7.mono (by first | omega | (simp [ext_size]; try omega)))
  have zw7 := hB7.size
  clear hb7
  clear zz6 zw6 hB6
  go_wp2_with fail
  with_reducible refine (A8 _).mono ?_
  rintro e v8 ⟨rfl, hb8⟩
  have zz8 := hb8.size
  try simp [ext_size] at zz8
  have hB8 : Below w.heap.size w v8 := Below.trans (by (repeat (first | with_reducible exact hB7 | (with_reducible refine bext ?_ _ _) | (with_reducible refine below_drewN ?_ _) | (with_reducible refine Below.drew ?_) | (with_reducible refine bal ?_ _) | (with_reducible refine bset ?_ (by first | omega | (simp <;> omega)) _)))) (hb8.mono (by first | omega | (simp [ext_size]; try omega)))
  have zw8 := hB8.size
  clear hb8
  clear zz7 zw7 hB7
  go_wp2_with fail
  with_reducible refine (A9 _).mono ?_
  rintro e v9 ⟨rfl, hb9⟩
  have zz9 := hb9.size
  try simp [ext_size] at zz9
  have hB9 : Below w.heap.size w v9 := Below.trans (by (repeat (first | with_reducible exact hB8 | (with_reducible refine bext ?_ _ _) | (with_reducible refine below_drewN ?_ _) | (with_reducible refine Below.drew ?_) | (with_reducible refine bal ?_ _) | (with_reducible refine bset ?_ (by first | omega | (simp <;> omega)) _)))) (hb9.mono (by first | omega | (simp [ext_size]; try omega)))
  have zw9 := hB9.size
  clear hb9
  clear zz8 zw8 hB8
  go_wp2_with fail
  with_reducible refine (A10 _).mono ?_
  rintro e v10 ⟨rfl, hb10⟩
  have zz10 := hb10.size
  try simp [ext_size] at zz10
  have hB10 : Below w.heap.size w v10 := Below.trans (by (repeat (first | with_reducible exact hB9 | (with_reducible refine bext ?_ _ _) | (with_reducible refine below_drewN ?_ _) | (with_reducible refine Below.drew ?_) | (with_reducible refine bal ?_ _) | (with_reducible refine bset ?_ (by first | omega | (simp <;> omega)) _)))) (hb10.mono (by first | omega | (simp [ext_size]; try omega)))
  have zw10 := hB10.size
  clear hb10
  clear zz9 zw9 hB9
  go_wp2_with fail
  with_reducible refine (A11 _).mono ?_
  rintro e v11 ⟨rfl, hb11⟩
  have zz11 := hb11.size
  try simp [ext_size] at zz11
  have hB11 : Below w.heap.size w v11 := Below.trans (by (repeat (first | with_reducible exact hB10 | (with_reducible refine bext ?_ _ _) | (with_reducible refine below_drewN ?_ _) | (with_reducible refine Below.drew ?_) | (with_reducible refine bal ?_ _) | (with_reducible refine bset ?_ (by first | omega | (simp <;> omega)) _)))) (hb11.mono (by first | omega | (simp [ext_size]; try omega)))
  have zw11 := hB11.size
  clear hb11
  clear zz10 zw10 hB10
  go_wp2_with fail
  with_reducible refine (A12 _).mono ?_
  rintro e v12 ⟨rfl, hb12⟩
  have zz12 := hb12.size
  try simp [ext_size] at zz12
  have hB12 : Below w.heap.size w v12 := Below.trans (by (repeat (first | with_reducible exact hB11 | (with_reducible refine bext ?_ _ _) | (with_reducible refine below_drewN ?_ _) | (with_reducible refine Below.drew ?_) | (with_reducible refine bal ?_ _) | (with_reducible refine bset ?_ (by first | omega | (simp <;> omega)) _)))) (hb12.mono (by first | omega | (simp [ext_size]; try omega)))
  have zw12 := hB12.size
  clear hb12
  clear zz11 zw11 hB11
  go_wp2_with fail
  with_reducible refine (A13 _).mono ?_
  rintro e v13 ⟨rfl, hb13⟩
  have zz13 := hb13.size
  try simp [ext_size] at zz13
  have hB13 : Below w.heap.size w v13 := Below.trans (by (repeat (first | with_reducible exact hB12 | (with_reducible refine bext ?_ _ _) | (with_reducible refine below_drewN ?_ _) | (with_reducible refine Below.drew ?_) | (with_reducible refine bal ?_ _) | (with_reducible refine bset ?_ (by first | omega | (simp <;> omega)) _)))) (hb13.mono (by first | omega | (simp [ext_size]; try omega)))
  have zw13 := hB13.size
  clear hb13
  clear zz12 zw12 hB12
  go_wp2_with fail
  with_reducible refine (A14 _).mono ?_
  rintro e v14 ⟨rfl, hb14⟩
  have zz14 := hb14.size
  try simp [ext_size] at zz14
  have hB14 : Below w.heap.size w v14 := Below.trans (by (repeat (first | with_reducible exact hB13 | (with_reducible refine bext ?_ _ _) | (with_reducible refine below_drewN ?_ _) | (with_reducible refine Below.drew ?_) | (with_reducible refine bal ?_ _) | (with_reducible refine bset ?_ (by first | omega | (simp <;> omega)) _)))) (hb14.mono (by first | omega | (simp [ext_size]; try omega)))
  have zw14 := hB14.size
  clear hb14
  clear zz13 zw13 hB13
  go_wp2_with fail
  with_reducible refine (A15 _).mono ?_
  rintro e v15 ⟨rfl, hb15⟩
  have zz15 := hb15.size
  try simp [ext_size] at zz15
  have hB15 : Below w.heap.size w v15 := Below.trans (by (repeat (first | with_reducible exact hB14 | (with_reducible refine bext ?_ _ _) | (with_reducible refine below_drewN ?_ _) | (with_reducible refine Below.drew ?_) | (with_reducible refine bal ?_ _) | (with_reducible refine bset ?_ (by first | omega | (simp <;> omega)) _)))) (hb15.mono (by first | omega | (simp [ext_size]; try omega)))
  have zw15 := hB15.size
  clear hb15
  clear zz14 zw14 hB14
  go_wp2_with fail
  with_reducible refine (A16 _).mono ?_
  rintro e v16 ⟨rfl, hb16⟩
  have zz16 := hb16.size
  try simp [ext_size] at zz16
  have hB16 : Below w.heap.size w v16 := Below.trans (by (repeat (first | with_reducible exact hB15 | (with_reducible refine bext ?_ _ _) | (with_reducible refine below_drewN ?_ _) | (with_reducible refine Below.drew ?_) | (with_reducible refine bal ?_ _) | (with_reducible refine bset ?_ (by first | omega | (simp <;> omega)) _)))) (hb16.mono (by first | omega | (simp [ext_size]; try omega)))
  have zw16 := hB16.size
  clear hb16
  clear zz15 zw15 hB15
  go_wp2_with fail
  with_reducible refine (A17 _).mono ?_
  rintro e v17 ⟨rfl, hb17⟩
  have zz17 := hb17.size
  try simp [ext_size] at zz17
  have hB17 : Below w.heap.size w v17 := Below.trans (by (repeat (first | with_reducible exact hB16 | (with_reducible refine bext ?_ _ _) | (with_reducible refine below_drewN ?_ _) | (with_reducible refine Below.drew ?_) | (with_reducible refine bal ?_ _) | (with_reducible refine bset ?_ (by first | omega | (simp <;> omega)) _)))) (hb17.mono (by first | omega | (simp [ext_size]; try omega)))
  have zw17 := hB17.size
  clear hb17
  clear zz16 zw16 hB16
  go_wp2_with fail
  with_reducible refine (A18 _).mono ?_
  rintro e v18 ⟨rfl, hb18⟩
  have zz18 := hb18.size
  try simp [ext_size] at zz18
  have hB18 : Below w.heap.size w v18 := Below.trans (by (repeat (first | with_reducible exact hB17 | (with_reducible refine bext ?_ _ _) | (with_reducible refine below_drewN ?_ _) | (with_reducible refine Below.drew ?_) | (with_reducible refine bal ?_ _) | (with_reducible refine bset ?_ (by first | omega | (simp <;> omega)) _)))) (hb18.mono (by first | omega | (simp [ext_size]; try omega)))
  have zw18 := hB18.size
  clear hb18
  clear zz17 zw17 hB17
  go_wp2_with fail
  with_reducible refine (A19 _).mono ?_
  rintro e v19 ⟨rfl, hb19⟩
  have zz19 := hb19.size
  try simp [ext_size] at zz19
  have cc19_0 : v19.cell? ⟨v18.heap.size + 1, 0, none⟩ = some (.int .i64 3000000000) := (hb19.cell (p := ⟨v18.heap.size + 1, 0, none⟩) (by first | omega | (simp [ext_size]; try omega))).trans (by (simp (maxDischargeDepth := 8) [go_sem, World.cell?_alloc_past, ltk2, ltk3, ltk4, ltk5, ltk6, ltk7, ltk8, ltk9, *]))
  have cc19_1 : v19.cell? ⟨v18.heap.size + 1, 1, none⟩ = some (.int .i64 3000000000) := (hb19.cell (p := ⟨v18.heap.size + 1, 1, none⟩) (by first | omega | (simp [ext_size]; try omega))).trans (by (simp (maxDischargeDepth := 8) [go_sem, World.cell?_alloc_past, ltk2, ltk3, ltk4, ltk5, ltk6, ltk7, ltk8, ltk9, *]))
  have zl19_0 : v18.heap.size + 1 < v19.heap.size := by omega
  have hB19 : Below w.heap.size w v19 := Below.trans (by (repeat (first | with_reducible exact hB18 | (with_reducible refine bext ?_ _ _) | (with_reducible refine below_drewN ?_ _) | (with_reducible refine Below.drew ?_) | (with_reducible refine bal ?_ _) | (with_reducible refine bset ?_ (by first | omega | (simp <;> omega)) _)))) (hb19.mono (by first | omega | (simp [ext_size]; try omega)))
  have zw19 := hB19.size
  clear hb19
  clear zz18 zw18 hB18
  go_wp2_with fail
  with_reducible refine (A20 _).mono ?_
  rintro e v20 ⟨rfl, hb20⟩
  have zz20 := hb20.size
  try simp [ext_size] at zz20
  have cc20_0 : v20.cell? ⟨v18.heap.size + 1, 0, none⟩ = some (.int .i64 3000000000) := (hb20.cell (p := ⟨v18.heap.size + 1, 0, none⟩) (by first | omega | (simp [ext_size]; try omega))).trans (by (simp (maxDischargeDepth := 8) [go_sem, World.cell?_alloc_past, ltk2, ltk3, ltk4, ltk5, ltk6, ltk7, ltk8, ltk9, *]))
  have cc20_1 : v20.cell? ⟨v18.heap.size + 1, 1, none⟩ = some (.int .i64 3000000000) := (hb20.cell (p := ⟨v18.heap.size + 1, 1, none⟩) (by first | omega | (simp [ext_size]; try omega))).trans (by (simp (maxDischargeDepth := 8) [go_sem, World.cell?_alloc_past, ltk2, ltk3, ltk4, ltk5, ltk6, ltk7, ltk8, ltk9, *]))
  have zl20_0 : v18.heap.size + 1 < v20.heap.size := by omega
  have hB20 : Below w.heap.size w v20 := Below.trans (by (repeat (first | with_reducible exact hB19 | (with_reducible refine bext ?_ _ _) | (with_reducible refine below_drewN ?_ _) | (with_reducible refine Below.drew ?_) | (with_reducible refine bal ?_ _) | (with_reducible refine bset ?_ (by first | omega | (simp <;> omega)) _)))) (hb20.mono (by first | omega | (simp [ext_size]; try omega)))
  have zw20 := hB20.size
  clear hb20
  clear cc19_0 cc19_1 zl19_0 zz19 zw19 hB19
  go_wp2_with fail
  with_reducible refine (A21 _).mono ?_
  rintro e v21 ⟨rfl, hb21⟩
  have zz21 := hb21.size
  try simp [ext_size] at zz21
  have cc21_0 : v21.cell? ⟨v18.heap.size + 1, 0, none⟩ = some (.int .i64 3000000000) := (hb21.cell (p := ⟨v18.heap.size + 1, 0, none⟩) (by first | omega | (simp [ext_size]; try omega))).trans (by (simp (maxDischargeDepth := 8) [go_sem, World.cell?_alloc_past, ltk2, ltk3, ltk4, ltk5, ltk6, ltk7, ltk8, ltk9, *]))
  have cc21_1 : v21.cell? ⟨v18.heap.size + 1, 1, none⟩ = some (.int .i64 3000000000) := (hb21.cell (p := ⟨v18.heap.size + 1, 1, none⟩) (by first | omega | (simp [ext_size]; try omega))).trans (by (simp (maxDischargeDepth := 8) [go_sem, World.cell?_alloc_past, ltk2, ltk3, ltk4, ltk5, ltk6, ltk7, ltk8, ltk9, *]))
  have zl21_0 : v18.heap.size + 1 < v21.heap.size := by omega
  have hB21 : Below w.heap.size w v21 := Below.trans (by (repeat (first | with_reducible exact hB20 | (with_reducible refine bext ?_ _ _) | (with_reducible refine below_drewN ?_ _) | (with_reducible refine Below.drew ?_) | (with_reducible refine bal ?_ _) | (with_reducible refine bset ?_ (by first | omega | (simp <;> omega)) _)))) (hb21.mono (by first | omega | (simp [ext_size]; try omega)))
  have zw21 := hB21.size
  clear hb21
  clear cc20_0 cc20_1 zl20_0 zz20 zw20 hB20
  go_wp2_with fail
  with_reducible refine (A22 _).mono ?_
  rintro e v22 ⟨rfl, hb22⟩
  have zz22 := hb22.size
  try simp [ext_size] at zz22
  have cc22_0 : v22.cell? ⟨v18.heap.size + 1, 0, none⟩ = some (.int .i64 3000000000) := (hb22.cell (p := ⟨v18.heap.size + 1, 0, none⟩) (by first | omega | (simp [ext_size]; try omega))).trans (by (simp (maxDischargeDepth := 8) [go_sem, World.cell?_alloc_past, ltk2, ltk3, ltk4, ltk5, ltk6, ltk7, ltk8, ltk9, *]))
  have cc22_1 : v22.cell? ⟨v18.heap.size + 1, 1, none⟩ = some (.int .i64 3000000000) := (hb22.cell (p := ⟨v18.heap.size + 1, 1, none⟩) (by first | omega | (simp [ext_size]; try omega))).trans (by (simp (maxDischargeDepth := 8) [go_sem, World.cell?_alloc_past, ltk2, ltk3, ltk4, ltk5, ltk6, ltk7, ltk8, ltk9, *]))
  have zl22_0 : v18.heap.size + 1 < v22.heap.size := by omega
  have hB22 : Below w.heap.size w v22 := Below.trans (by (repeat (first | with_reducible exact hB21 | (with_reducible refine bext ?_ _ _) | (with_reducible refine below_drewN ?_ _) | (with_reducible refine Below.drew ?_) | (with_reducible refine bal ?_ _) | (with_reducible refine bset ?_ (by first | omega | (simp <;> omega)) _)))) (hb22.mono (by first | omega | (simp [ext_size]; try omega)))
  have zw22 := hB22.size
  clear hb22
  clear cc21_0 cc21_1 zl21_0 zz21 zw21 hB21
  go_wp2_with fail
  with_reducible refine (A23 _).mono ?_
  rintro e v23 ⟨rfl, hb23⟩
  have zz23 := hb23.size
  try simp [ext_size] at zz23
  have cc23_0 : v23.cell? ⟨v18.heap.size + 1, 0, none⟩ = some (.int .i64 3000000000) := (hb23.cell (p := ⟨v18.heap.size + 1, 0, none⟩) (by first | omega | (simp [ext_size]; try omega))).trans (by (simp (maxDischargeDepth := 8) [go_sem, World.cell?_alloc_past, ltk2, ltk3, ltk4, ltk5, ltk6, ltk7, ltk8, ltk9, *]))
  have cc23_1 : v23.cell? ⟨v18.heap.size + 1, 1, none⟩ = some (.int .i64 3000000000) := (hb23.cell (p := ⟨v18.heap.size + 1, 1, none⟩) (by first | omega | (simp [ext_size]; try omega))).trans (by (simp (maxDischargeDepth := 8) [go_sem, World.cell?_alloc_past, ltk2, ltk3, ltk4, ltk5, ltk6, ltk7, ltk8, ltk9, *]))
  have cc23_2 : v23.cell? ⟨v22.heap.size, 0, none⟩ = some (.int .i64 3000) := (hb23.cell (p := ⟨v22.heap.size, 0, none⟩) (by first | omega | (simp [ext_size]; try omega))).trans (by (simp (maxDischargeDepth := 8) [go_sem, World.cell?_alloc_past, ltk2, ltk3, ltk4, ltk5, ltk6, ltk7, ltk8, ltk9, *]))
  have cc23_3 : v23.cell? ⟨v22.heap.size, 1, none⟩ = some (.int .i64 3000000000) := (hb23.cell (p := ⟨v22.heap.size, 1, none⟩) (by first | omega | (simp [ext_size]; try omega))).trans (by (simp (maxDischargeDepth := 8) [go_sem, World.cell?_alloc_past, ltk2, ltk3, ltk4, ltk5, ltk6, ltk7, ltk8, ltk9, *]))
  have zl23_0 : v18.heap.size + 1 < v23.heap.size := by omega
  have zl23_1 : v22.heap.size < v23.heap.size := by omega
  have hB23 : Below w.heap.size w v23 := Below.trans (by (repeat (first | with_reducible exact hB22 | (with_reducible refine bext ?_ _ _) | (with_reducible refine below_drewN ?_ _) | (with_reducible refine Below.drew ?_) | (with_reducible refine bal ?_ _) | (with_reducible refine bset ?_ (by first | omega | (simp <;> omega)) _)))) (hb23.mono (by first | omega | (simp [ext_size]; try omega)))
  have zw23 := hB23.size
  clear hb23
  clear cc22_0 cc22_1 zl22_0 zz22 zw22 hB22
  go_wp2_with fail
  with_reducible refine (A24 _).mono ?_
  rintro e v24 ⟨rfl, hb24⟩
  have zz24 := hb24.size
  try simp [ext_size] at zz24
  have cc24_0 : v24.cell? ⟨v22.heap.size, 0, none⟩ = some (.int .i64 3000) := (hb24.cell (p := ⟨v22.heap.size, 0, none⟩) (by first | omega | (simp [ext_size]; try omega))).trans (by (simp (maxDischargeDepth := 8) [go_sem, World.cell?_alloc_past, ltk2, ltk3, ltk4, ltk5, ltk6, ltk7, ltk8, ltk9, *]))
  have cc24_1 : v24.cell? ⟨v22.heap.size, 1, none⟩ = some (.int .i64 3000000000) := (hb24.cell (p := ⟨v22.heap.size, 1, none⟩) (by first | omega | (simp [ext_size]; try omega))).trans (by (simp (maxDischargeDepth := 8) [go_sem, World.cell?_alloc_past, ltk2, ltk3, ltk4, ltk5, ltk6, ltk7, ltk8, ltk9, *]))
  have zl24_0 : v22.heap.size < v24.heap.size := by omega
  have hB24 : Below w.heap.size w v24 := Below.trans (by (repeat (first | with_reducible exact hB23 | (with_reducible refine bext ?_ _ _) | (with_reducible refine below_drewN ?_ _) | (with_reducible refine Below.drew ?_) | (with_reducible refine bal ?_ _) | (with_reducible refine bset ?_ (by first | omega | (simp <;> omega)) _)))) (hb24.mono (by first | omega | (simp [ext_size]; try omega)))
  have zw24 := hB24.size
  clear hb24
  clear cc23_0 cc23_1 cc23_2 cc23_3 zl23_0 zl23_1 zz23 zw23 hB23
  go_wp2_with fail
  with_reducible refine (A25 _).mono ?_
  rintro e v25 ⟨rfl, hb25⟩
  have zz25 := hb25.size
  try simp [ext_size] at zz25
  have cc25_0 : v25.cell? ⟨v22.heap.size, 0, none⟩ = some (.int .i64 3000) := (hb25.cell (p := ⟨v22.heap.size, 0, none⟩) (by first | omega | (simp [ext_size]; try omega))).trans (by (simp (maxDischargeDepth := 8) [go_sem, World.cell?_alloc_past, ltk2, ltk3, ltk4, ltk5, ltk6, ltk7, ltk8, ltk9, *]))
  have cc25_1 : v25.cell? ⟨v22.heap.size, 1, none⟩ = some (.int .i64 3000000000) := (hb25.cell (p := ⟨v22.heap.size, 1, none⟩) (by first | omega | (simp [ext_size]; try omega))).trans (by (simp (maxDischargeDepth := 8) [go_sem, World.cell?_alloc_past, ltk2, ltk3, ltk4, ltk5, ltk6, ltk7, ltk8, ltk9, *]))
  have zl25_0 : v22.heap.size < v25.heap.size := by omega
  have hB25 : Below w.heap.size w v25 := Below.trans (by (repeat (first | with_reducible exact hB24 | (with_reducible refine bext ?_ _ _) | (with_reducible refine below_drewN ?_ _) | (with_reducible refine Below.drew ?_) | (with_reducible refine bal ?_ _) | (with_reducible refine bset ?_ (by first | omega | (simp <;> omega)) _)))) (hb25.mono (by first | omega | (simp [ext_size]; try omega)))
  have zw25 := hB25.size
  clear hb25
  clear cc24_0 cc24_1 zl24_0 zz24 zw24 hB24
  go_wp2_with fail
  with_reducible refine (A26 _).mono ?_
  rintro e v26 ⟨rfl, hb26⟩
  have zz26 := hb26.size
  try simp [ext_size] at zz26
  have cc26_0 : v26.cell? ⟨v22.heap.size, 0, none⟩ = some (.int .i64 3000) := (hb26.cell (p := ⟨v22.heap.size, 0, none⟩) (by first | omega | (simp [ext_size]; try omega))).trans (by (simp (maxDischargeDepth := 8) [go_sem, World.cell?_alloc_past, ltk2, ltk3, ltk4, ltk5, ltk6, ltk7, ltk8, ltk9, *]))
  have cc26_1 : v26.cell? ⟨v22.heap.size, 1, none⟩ = some (.int .i64 3000000000) := (hb26.cell (p := ⟨v22.heap.size, 1, none⟩) (by first | omega | (simp [ext_size]; try omega))).trans (by (simp (maxDischargeDepth := 8) [go_sem, World.cell?_alloc_past, ltk2, ltk3, ltk4, ltk5, ltk6, ltk7, ltk8, ltk9, *]))
  have cc26_2 : v26.cell? ⟨v25.heap.size, 0, none⟩ = some (.int .i64 (-3000000000)) := (hb26.cell (p := ⟨v25.heap.size, 0, none⟩) (by first | omega | (simp [ext_size]; try omega))).trans (by (simp (maxDischargeDepth := 8) [go_sem, World.cell?_alloc_past, ltk2, ltk3, ltk4, ltk5, ltk6, ltk7, ltk8, ltk9, *]))
  have cc26_3 : v26.cell? ⟨v25.heap.size, 1, none⟩ = some (.int .i64 (-3000000000)) := (hb26.cell (p := ⟨v25.heap.size, 1, none⟩) (by first | omega | (simp [ext_size]; try omega))).trans (by (simp (maxDischargeDepth := 8) [go_sem, World.cell?_alloc_past, ltk2, ltk3, ltk4, ltk5, ltk6, ltk7, ltk8, ltk9, *]))
  have zl26_0 : v22.heap.size < v26.heap.size := by omega
  have zl26_1 : v25.heap.size < v26.heap.size := by omega
  have hB26 : Below w.heap.size w v26 := Below.trans (by (repeat (first | with_reducible exact hB25 | (with_reducible refine bext ?_ _ _) | (with_reducible refine below_drewN ?_ _) | (with_reducible refine Below.drew ?_) | (with_reducible refine bal ?_ _) | (with_reducible refine bset ?_ (by first | omega | (simp <;> omega)) _)))) (hb26.mono (by first | omega | (simp [ext_size]; try omega)))
  have zw26 := hB26.size
  clear hb26
  clear cc25_0 cc25_1 zl25_0 zz25 zw25 hB25
  go_wp2_with fail
  with_reducible refine (A27 _).mono ?_
  rintro e v27 ⟨rfl, hb27⟩
  have zz27 := hb27.size
  try simp [ext_size] at zz27
  have cc27_0 : v27.cell? ⟨v22.heap.size, 0, none⟩ = some (.int .i64 3000) := (hb27.cell (p := ⟨v22.heap.size, 0, none⟩) (by first | omega | (simp [ext_size]; try omega))).trans (by (simp (maxDischargeDepth := 8) [go_sem, World.cell?_alloc_past, ltk2, ltk3, ltk4, ltk5, ltk6, ltk7, ltk8, ltk9, *]))
  have cc27_1 : v27.cell? ⟨v22.heap.size, 1, none⟩ = some (.int .i64 3000000000) := (hb27.cell (p := ⟨v22.heap.size, 1, none⟩) (by first | omega | (simp [ext_size]; try omega))).trans (by (simp (maxDischargeDepth := 8) [go_sem, World.cell?_alloc_past, ltk2, ltk3, ltk4, ltk5, ltk6, ltk7, ltk8, ltk9, *]))
  have cc27_2 : v27.cell? ⟨v25.heap.size, 0, none⟩ = some (.int .i64 (-3000000000)) := (hb27.cell (p := ⟨v25.heap.size, 0, none⟩) (by first | omega | (simp [ext_size]; try omega))).trans (by (simp (maxDischargeDepth := 8) [go_sem, World.cell?_alloc_past, ltk2, ltk3, ltk4, ltk5, ltk6, ltk7, ltk8, ltk9, *]))
  have cc27_3 : v27.cell? ⟨v25.heap.size, 1, none⟩ = some (.int .i64 (-3000000000)) := (hb27.cell (p := ⟨v25.heap.size, 1, none⟩) (by first | omega | (simp [ext_size]; try omega))).trans (by (simp (maxDischargeDepth := 8) [go_sem, World.cell?_alloc_past, ltk2, ltk3, ltk4, ltk5, ltk6, ltk7, ltk8, ltk9, *]))
  have zl27_0 : v22.heap.size < v27.heap.size := by omega
  have zl27_1 : v25.heap.size < v27.heap.size := by omega
  have hB27 : Below w.heap.size w v27 := Below.trans (by (repeat (first | with_reducible exact hB26 | (with_reducible refine bext ?_ _ _) | (with_reducible refine below_drewN ?_ _) | (with_reducible refine Below.drew ?_) | (with_reducible refine bal ?_ _) | (with_reducible refine bset ?_ (by first | omega | (simp <;> omega)) _)))) (hb27.mono (by first | omega | (simp [ext_size]; try omega)))
  have zw27 := hB27.size
  clear hb27
  clear cc26_0 cc26_1 cc26_2 cc26_3 zl26_0 zl26_1 zz26 zw26 hB26
  go_wp2_with fail
  with_reducible refine (A28 _).mono ?_
  rintro e v28 ⟨rfl, hb28⟩
  have zz28 := hb28.size
  try simp [ext_size] at zz28
  have cc28_0 : v28.cell? ⟨v22.heap.size, 0, none⟩ = some (.int .i64 3000) := (hb28.cell (p := ⟨v22.heap.size, 0, none⟩) (by first | omega | (simp [ext_size]; try omega))).trans (by (simp (maxDischargeDepth := 8) [go_sem, World.cell?_alloc_past, ltk2, ltk3, ltk4, ltk5, ltk6, ltk7, ltk8, ltk9, *]))
  have cc28_1 : v28.cell? ⟨v22.heap.size, 1, none⟩ = some (.int .i64 3000000000) := (hb28.cell (p := ⟨v22.heap.size, 1, none⟩) (by first | omega | (simp [ext_size]; try omega))).trans (by (simp (maxDischargeDepth := 8) [go_sem, World.cell?_alloc_past, ltk2, ltk3, ltk4, ltk5, ltk6, ltk7, ltk8, ltk9, *]))
  have cc28_2 : v28.cell? ⟨v25.heap.size, 0, none⟩ = some (.int .i64 (-3000000000)) := (hb28.cell (p := ⟨v25.heap.size, 0, none⟩) (by first | omega | (simp [ext_size]; try omega))).trans (by (simp (maxDischargeDepth := 8) [go_sem, World.cell?_alloc_past, ltk2, ltk3, ltk4, ltk5, ltk6, ltk7, ltk8, ltk9, *]))
  have cc28_3 : v28.cell? ⟨v25.heap.size, 1, none⟩ = some (.int .i64 (-3000000000)) := (hb28.cell (p := ⟨v25.heap.size, 1, none⟩) (by first | omega | (simp [ext_size]; try omega))).trans (by (simp (maxDischargeDepth := 8) [go_sem, World.cell?_alloc_past, ltk2, ltk3, ltk4, ltk5, ltk6, ltk7, ltk8, ltk9, *]))
  have zl28_0 : v22.heap.size < v28.heap.size := by omega
  have zl28_1 : v25.heap.size < v28.heap.size := by omega
  have hB28 : Below w.heap.size w v28 := Below.trans (by (repeat (first | with_reducible exact hB27 | (with_reducible refine bext ?_ _ _) | (with_reducible refine below_drewN ?_ _) | (with_reducible refine Below.drew ?_) | (with_reducible refine bal ?_ _) | (with_reducible refine bset ?_ (by first | omega | (simp <;> omega)) _)))) (hb28.mono (by first | omega | (simp [ext_size]; try omega)))
  have zw28 := hB28.size
  clear hb28
  clear cc27_0 cc27_1 cc27_2 cc27_3 zl27_0 zl27_1 zz27 zw27 hB27
  go_wp2_with fail
  with_reducible refine (A29 _).mono ?_
  rintro e v29 ⟨rfl, hb29⟩
  have zz29 := hb29.size
  try simp [ext_size] at zz29
  have cc29_0 : v29.cell? ⟨v22.heap.size, 0, none⟩ = some (.int .i64 3000) := (hb29.cell (p := ⟨v22.heap.size, 0, none⟩) (by first | omega | (simp [ext_size]; try omega))).trans (by (simp (maxDischargeDepth := 8) [go_sem, World.cell?_alloc_past, ltk2, ltk3, ltk4, ltk5, ltk6, ltk7, ltk8, ltk9, *]))
  have cc29_1 : v29.cell? ⟨v22.heap.size, 1, none⟩ = some (.int .i64 3000000000) := (hb29.cell (p := ⟨v22.heap.size, 1, none⟩) (by first | omega | (simp [ext_size]; try omega))).trans (by (simp (maxDischargeDepth := 8) [go_sem, World.cell?_alloc_past, ltk2, ltk3, ltk4, ltk5, ltk6, ltk7, ltk8, ltk9, *]))
  have cc29_2 : v29.cell? ⟨v25.heap.size, 0, none⟩ = some (.int .i64 (-3000000000)) := (hb29.cell (p := ⟨v25.heap.size, 0, none⟩) (by first | omega | (simp [ext_size]; try omega))).trans (by (simp (maxDischargeDepth := 8) [go_sem, World.cell?_alloc_past, ltk2, ltk3, ltk4, ltk5, ltk6, ltk7, ltk8, ltk9, *]))
  have cc29_3 : v29.cell? ⟨v25.heap.size, 1, none⟩ = some (.int .i64 (-3000000000)) := (hb29.cell (p := ⟨v25.heap.size, 1, none⟩) (by first | omega | (simp [ext_size]; try omega))).trans (by (simp (maxDischargeDepth := 8) [go_sem, World.cell?_alloc_past, ltk2, ltk3, ltk4, ltk5, ltk6, ltk7, ltk8, ltk9, *]))
  have cc29_4 : v29.cell? ⟨v28.heap.size, 0, none⟩ = some (.int .i64 0) := (hb29.cell (p := ⟨v28.heap.size, 0, none⟩) (by first | omega | (simp [ext_size]; try omega))).trans (by (simp (maxDischargeDepth := 8) [go_sem, World.cell?_alloc_past, ltk2, ltk3, ltk4, ltk5, ltk6, ltk7, ltk8, ltk9, *]))
  have cc29_5 : v29.cell? ⟨v28.heap.size, 1, none⟩ = some (.int .i64 1) := (hb29.cell (p := ⟨v28.heap.size, 1, none⟩) (by first | omega | (simp [ext_size]; try omega))).trans (by (simp (maxDischargeDepth := 8) [go_sem, World.cell?_alloc_past, ltk2, ltk3, ltk4, ltk5, ltk6, ltk7, ltk8, ltk9, *]))
  have zl29_0 : v22.heap.size < v29.heap.size := by omega
  have zl29_1 : v25.heap.size < v29.heap.size := by omega
  have zl29_2 : v28.heap.size < v29.heap.size := by omega
  have hB29 : Below w.heap.size w v29 := Below.trans (by (repeat (first | with_reducible exact hB28 | (with_reducible refine bext ?_ _ _) | (with_reducible refine below_drewN ?_ _) | (with_reducible refine Below.drew ?_) | (with_reducible refine bal ?_ _) | (with_reducible refine bset ?_ (by first | omega | (simp <;> omega)) _)))) (hb29.mono (by first | omega | (simp [ext_size]; try omega)))
  have zw29 := hB29.size
  clear hb29
  clear cc28_0 cc28_1 cc28_2 cc28_3 zl28_0 zl28_1 zz28 zw28 hB28
  go_wp2_with fail
  with_reducible refine (A30 _).mono ?_
  rintro e v30 ⟨rfl, hb30⟩
  have zz30 := hb30.size
  try simp [ext_size] at zz30
  have cc30_0 : v30.cell? ⟨v22.heap.size, 0, none⟩ = some (.int .i64 3000) := (hb30.cell (p := ⟨v22.heap.size, 0, none⟩) (by first | omega | (simp [ext_size]; try omega))).trans (by (simp (maxDischargeDepth := 8) [go_sem, World.cell?_alloc_past, ltk2, ltk3, ltk4, ltk5, ltk6, ltk7, ltk8, ltk9, *]))
  have cc30_1 : v30.cell? ⟨v22.heap.size, 1, none⟩ = some (.int .i64 3000000000) := (hb30.cell (p := ⟨v22.heap.size, 1, none⟩) (by first | omega | (simp [ext_size]; try omega))).trans (by (simp (maxDischargeDepth := 8) [go_sem, World.cell?_alloc_past, ltk2, ltk3, ltk4, ltk5, ltk6, ltk7, ltk8, ltk9, *]))
  have cc30_2 : v30.cell? ⟨v25.heap.size, 0, none⟩ = some (.int .i64 (-3000000000)) := (hb30.cell (p := ⟨v25.heap.size, 0, none⟩) (by first | omega | (simp [ext_size]; try omega))).trans (by (simp (maxDischargeDepth := 8) [go_sem, World.cell?_alloc_past, ltk2, ltk3, ltk4, ltk5, ltk6, ltk7, ltk8, ltk9, *]))
  have cc30_3 : v30.cell? ⟨v25.heap.size, 1, none⟩ = some (.int .i64 (-3000000000)) := (hb30.cell (p := ⟨v25.heap.size, 1, none⟩) (by first | omega | (simp [ext_size]; try omega))).trans (by (simp (maxDischargeDepth := 8) [go_sem, World.cell?_alloc_past, ltk2, ltk3, ltk4, ltk5, ltk6, ltk7, ltk8, ltk9, *]))
  have cc30_4 : v30.cell? ⟨v28.heap.size, 0, none⟩ = some (.int .i64 0) := (hb30.cell (p := ⟨v28.heap.size, 0, none⟩) (by first | omega | (simp [ext_size]; try omega))).trans (by (simp (maxDischargeDepth := 8) [go_sem, World.cell?_alloc_past, ltk2, ltk3, ltk4, ltk5, ltk6, ltk7, ltk8, ltk9, *]))
  have cc30_5 : v30.cell? ⟨v28.heap.size, 1, none⟩ = some (.int .i64 1) := (hb30.cell (p := ⟨v28.heap.size, 1, none⟩) (by first | omega | (simp [ext_size]; try omega))).trans (by (simp (maxDischargeDepth := 8) [go_sem, World.cell?_alloc_past, ltk2, ltk3, ltk4, ltk5, ltk6, ltk7, ltk8, ltk9, *]))
  have zl30_0 : v22.heap.size < v30.heap.size := by omega
  have zl30_1 : v25.heap.size < v30.heap.size := by omega
  have zl30_2 : v28.heap.size < v30.heap.size := by omega
  have hB30 : Below w.heap.size w v30 := Below.trans (by (repeat (first | with_reducible exact hB29 | (with_reducible refine bext ?_ _ _) | (with_reducible refine below_drewN ?_ _) | (with_reducible refine Below.drew ?_) | (with_reducible refine bal ?_ _) | (with_reducible refine bset ?_ (by first | omega | (simp <;> omega)) _)))) (hb30.mono (by first | omega | (simp [ext_size]; try omega)))
  have zw30 := hB30.size
  clear hb30
  clear cc29_0 cc29_1 cc29_2 cc29_3 cc29_4 cc29_5 zl29_0 zl29_1 zl29_2 zz29 zw29 hB29
  go_wp2_with fail
  with_reducible refine (A31 _).mono ?_
  rintro e v31 ⟨rfl, hb31⟩
  have zz31 := hb31.size
  try simp [ext_size] at zz31
  have cc31_0 : v31.cell? ⟨v22.heap.size, 0, none⟩ = some (.int .i64 3000) := (hb31.cell (p := ⟨v22.heap.size, 0, none⟩) (by first | omega | (simp [ext_size]; try omega))).trans (by (simp (maxDischargeDepth := 8) [go_sem, World.cell?_alloc_past, ltk2, ltk3, ltk4, ltk5, ltk6, ltk7, ltk8, ltk9, *]))
  have cc31_1 : v31.cell? ⟨v22.heap.size, 1, none⟩ = some (.int .i64 3000000000) := (hb31.cell (p := ⟨v22.heap.size, 1, none⟩) (by first | omega | (simp [ext_size]; try omega))).trans (by (simp (maxDischargeDepth := 8) [go_sem, World.cell?_alloc_past, ltk2, ltk3, ltk4, ltk5, ltk6, ltk7, ltk8, ltk9, *]))
  have cc31_2 : v31.cell? ⟨v25.heap.size, 0, none⟩ = some (.int .i64 (-3000000000)) := (hb31.cell (p := ⟨v25.heap.size, 0, none⟩) (by first | omega | (simp [ext_size]; try omega))).trans (by (simp (maxDischargeDepth := 8) [go_sem, World.cell?_alloc_past, ltk2, ltk3, ltk4, ltk5, ltk6, ltk7, ltk8, ltk9, *]))
  have cc31_3 : v31.cell? ⟨v25.heap.size, 1, none⟩ = some (.int .i64 (-3000000000)) := (hb31.cell (p := ⟨v25.heap.size, 1, none⟩) (by first | omega | (simp [ext_size]; try omega))).trans (by (simp (maxDischargeDepth := 8) [go_sem, World.cell?_alloc_past, ltk2, ltk3, ltk4, ltk5, ltk6, ltk7, ltk8, ltk9, *]))
  have cc31_4 : v31.cell? ⟨v28.heap.size, 0, none⟩ = some (.int .i64 0) := (hb31.cell (p := ⟨v28.heap.size, 0, none⟩) (by first | omega | (simp [ext_size]; try omega))).trans (by (simp (maxDischargeDepth := 8) [go_sem, World.cell?_alloc_past, ltk2, ltk3, ltk4, ltk5, ltk6, ltk7, ltk8, ltk9, *]))
  have cc31_5 : v31.cell? ⟨v28.heap.size, 1, none⟩ = some (.int .i64 1) := (hb31.cell (p := ⟨v28.heap.size, 1, none⟩) (by first | omega | (simp [ext_size]; try omega))).trans (by (simp (maxDischargeDepth := 8) [go_sem, World.cell?_alloc_past, ltk2, ltk3, ltk4, ltk5, ltk6, ltk7, ltk8, ltk9, *]))
  have zl31_0 : v22.heap.size < v31.heap.size := by omega
  have zl31_1 : v25.heap.size < v31.heap.size := by omega
  have zl31_2 : v28.heap.size < v31.heap.size := by omega
  have hB31 : Below w.heap.size w v31 := Below.trans (by (repeat (first | with_reducible exact hB30 | (with_reducible refine bext ?_ _ _) | (with_reducible refine below_drewN ?_ _) | (with_reducible refine Below.drew ?_) | (with_reducible refine bal ?_ _) | (with_reducible refine bset ?_ (by first | omega | (simp <;> omega)) _)))) (hb31.mono (by first | omega | (simp [ext_size]; try omega)))
  have zw31 := hB31.size
  clear hb31
  clear cc30_0 cc30_1 cc30_2 cc30_3 cc30_4 cc30_5 zl30_0 zl30_1 zl30_2 zz30 zw30 hB30
  go_wp2_with fail
  with_reducible refine (A32 _).mono ?_
  rintro e v32 ⟨rfl, hb32⟩
  have zz32 := hb32.size
  try simp [ext_size] at zz32
  have cc32_0 : v32.cell? ⟨v22.heap.size, 0, none⟩ = some (.int .i64 3000) := (hb32.cell (p := ⟨v22.heap.size, 0, none⟩) (by first | omega | (simp [ext_size]; try omega))).trans (by (simp (maxDischargeDepth := 8) [go_sem, World.cell?_alloc_past, ltk2, ltk3, ltk4, ltk5, ltk6, ltk7, ltk8, ltk9, *]))
  have cc32_1 : v32.cell? ⟨v22.heap.size, 1, none⟩ = some (.int .i64 3000000000) := (hb32.cell (p := ⟨v22.heap.size, 1, none⟩) (by first | omega | (simp [ext_size]; try omega))).trans (by (simp (maxDischargeDepth := 8) [go_sem, World.cell?_alloc_past, ltk2, ltk3, ltk4, ltk5, ltk6, ltk7, ltk8, ltk9, *]))
  have cc32_2 : v32.cell? ⟨v25.heap.size, 0, none⟩ = some (.int .i64 (-3000000000)) := (hb32.cell (p := ⟨v25.heap.size, 0, none⟩) (by first | omega | (simp [ext_size]; try omega))).trans (by (simp (maxDischargeDepth := 8) [go_sem, World.cell?_alloc_past, ltk2, ltk3, ltk4, ltk5, ltk6, ltk7, ltk8, ltk9, *]))
  have cc32_3 : v32.cell? ⟨v25.heap.size, 1, none⟩ = some (.int .i64 (-3000000000)) := (hb32.cell (p := ⟨v25.heap.size, 1, none⟩) (by first | omega | (simp [ext_size]; try omega))).trans (by (simp (maxDischargeDepth := 8) [go_sem, World.cell?_alloc_past, ltk2, ltk3, ltk4, ltk5, ltk6, ltk7, ltk8, ltk9, *]))
  have cc32_4 : v32.cell? ⟨v28.heap.size, 0, none⟩ = some (.int .i64 0) := (hb32.cell (p := ⟨v28.heap.size, 0, none⟩) (by first | omega | (simp [ext_size]; try omega))).trans (by (simp (maxDischargeDepth := 8) [go_sem, World.cell?_alloc_past, ltk2, ltk3, ltk4, ltk5, ltk6, ltk7, ltk8, ltk9, *]))
  have cc32_5 : v32.cell? ⟨v28.heap.size, 1, none⟩ = some (.int .i64 1) := (hb32.cell (p := ⟨v28.heap.size, 1, none⟩) (by first | omega | (simp [ext_size]; try omega))).trans (by (simp (maxDischargeDepth := 8) [go_sem, World.cell?_alloc_past, ltk2, ltk3, ltk4, ltk5, ltk6, ltk7, ltk8, ltk9, *]))
  have zl32_0 : v22.heap.size < v32.heap.size := by omega
  have zl32_1 : v25.heap.size < v32.heap.size := by omega
  have zl32_2 : v28.heap.size < v32.heap.size := by omega
  have hB32 : Below w.heap.size w v32 := Below.trans (by (repeat (first | with_reducible exact hB31 | (with_reducible refine bext ?_ _ _) | (with_reducible refine below_drewN ?_ _) | (with_reducible refine Below.drew ?_) | (with_reducible refine bal ?_ _) | (with_reducible refine bset ?_ (by first | omega | (simp <;> omega)) _)))) (hb32.mono (by first | omega | (simp [ext_size]; try omega)))
  have zw32 := hB32.size
  clear hb32
  clear cc31_0 cc31_1 cc31_2 cc31_3 cc31_4 cc31_5 zl31_0 zl31_1 zl31_2 zz31 zw31 hB31
  go_wp2_with fail
  with_reducible refine (A33 _).mono ?_
  rintro e v33 ⟨rfl, hb33⟩
  have zz33 := hb33.size
  try simp [ext_size] at zz33
  have cc33_0 : v33.cell? ⟨v22.heap.size, 0, none⟩ = some (.int .i64 3000) := (hb33.cell (p := ⟨v22.heap.size, 0, none⟩) (by first | omega | (simp [ext_size]; try omega))).trans (by (simp (maxDischargeDepth := 8) [go_sem, World.cell?_alloc_past, ltk2, ltk3, ltk4, ltk5, ltk6, ltk7, ltk8, ltk9, *]))
  have cc33_1 : v33.cell? ⟨v22.heap.size, 1, none⟩ = some (.int .i64 3000000000) := (hb33.cell (p := ⟨v22.heap.size, 1, none⟩) (by first | omega | (simp [ext_size]; try omega))).trans (by (simp (maxDischargeDepth := 8) [go_sem, World.cell?_alloc_past, ltk2, ltk3, ltk4, ltk5, ltk6, ltk7, ltk8, ltk9, *]))
  have cc33_2 : v33.cell? ⟨v25.heap.size, 0, none⟩ = some (.int .i64 (-3000000000)) := (hb33.cell (p := ⟨v25.heap.size, 0, none⟩) (by first | omega | (simp [ext_size]; try omega))).trans (by (simp (maxDischargeDepth := 8) [go_sem, World.cell?_alloc_past, ltk2, ltk3, ltk4, ltk5, ltk6, ltk7, ltk8, ltk9, *]))
  have cc33_3 : v33.cell? ⟨v25.heap.size, 1, none⟩ = some (.int .i64 (-3000000000)) := (hb33.cell (p := ⟨v25.heap.size, 1, none⟩) (by first | omega | (simp [ext_size]; try omega))).trans (by (simp (maxDischargeDepth := 8) [go_sem, World.cell?_alloc_past, ltk2, ltk3, ltk4, ltk5, ltk6, ltk7, ltk8, ltk9, *]))
  have cc33_4 : v33.cell? ⟨v28.heap.size, 0, none⟩ = some (.int .i64 0) := (hb33.cell (p := ⟨v28.heap.size, 0, none⟩) (by first | omega | (simp [ext_size]; try omega))).trans (by (simp (maxDischargeDepth := 8) [go_sem, World.cell?_alloc_past, ltk2, ltk3, ltk4, ltk5, ltk6, ltk7, ltk8, ltk9, *]))
  have cc33_5 : v33.cell? ⟨v28.heap.size, 1, none⟩ = some (.int .i64 1) := (hb33.cell (p := ⟨v28.heap.size, 1, none⟩) (by first | omega | (simp [ext_size]; try omega))).trans (by (simp (maxDischargeDepth := 8) [go_sem, World.cell?_alloc_past, ltk2, ltk3, ltk4, ltk5, ltk6, ltk7, ltk8, ltk9, *]))
  have zl33_0 : v22.heap.size < v33.heap.size := by omega
  have zl33_1 : v25.heap.size < v33.heap.size := by omega
  have zl33_2 : v28.heap.size < v33.heap.size := by omega
  have hB33 : Below w.heap.size w v33 := Below.trans (by (repeat (first | with_reducible exact hB32 | (with_reducible refine bext ?_ _ _) | (with_reducible refine below_drewN ?_ _) | (with_reducible refine Below.drew ?_) | (with_reducible refine bal ?_ _) | (with_reducible refine bset ?_ (by first | omega | (simp <;> omega)) _)))) (hb33.mono (by first | omega | (simp [ext_size]; try omega)))
  have zw33 := hB33.size
  clear hb33
  clear cc32_0 cc32_1 cc32_2 cc32_3 cc32_4 cc32_5 zl32_0 zl32_1 zl32_2 zz32 zw32 hB32
  go_wp2_with fail
  with_reducible refine (A34 _).mono ?_
  rintro e v34 ⟨rfl, hb34⟩
  have zz34 := hb34.size
  try simp [ext_size] at zz34
  have cc34_0 : v34.cell? ⟨v22.heap.size, 0, none⟩ = some (.int .i64 3000) := (hb34.cell (p := ⟨v22.heap.size, 0, none⟩) (by first | omega | (simp [ext_size]; try omega))).trans (by (simp (maxDischargeDepth := 8) [go_sem, World.cell?_alloc_past, ltk2, ltk3, ltk4, ltk5, ltk6, ltk7, ltk8, ltk9, *]))
  have cc34_1 : v34.cell? ⟨v22.heap.size, 1, none⟩ = some (.int .i64 3000000000) := (hb34.cell (p := ⟨v22.heap.size, 1, none⟩) (by first | omega | (simp [ext_size]; try omega))).trans (by (simp (maxDischargeDepth := 8) [go_sem, World.cell?_alloc_past, ltk2, ltk3, ltk4, ltk5, ltk6, ltk7, ltk8, ltk9, *]))
  have cc34_2 : v34.cell? ⟨v25.heap.size, 0, none⟩ = some (.int .i64 (-3000000000)) := (hb34.cell (p := ⟨v25.heap.size, 0, none⟩) (by first | omega | (simp [ext_size]; try omega))).trans (by (simp (maxDischargeDepth := 8) [go_sem, World.cell?_alloc_past, ltk2, ltk3, ltk4, ltk5, ltk6, ltk7, ltk8, ltk9, *]))
  have cc34_3 : v34.cell? ⟨v25.heap.size, 1, none⟩ = some (.int .i64 (-3000000000)) := (hb34.cell (p := ⟨v25.heap.size, 1, none⟩) (by first | omega | (simp [ext_size]; try omega))).trans (by (simp (maxDischargeDepth := 8) [go_sem, World.cell?_alloc_past, ltk2, ltk3, ltk4, ltk5, ltk6, ltk7, ltk8, ltk9, *]))
  have cc34_4 : v34.cell? ⟨v28.heap.size, 0, none⟩ = some (.int .i64 0) := (hb34.cell (p := ⟨v28.heap.size, 0, none⟩) (by first | omega | (simp [ext_size]; try omega))).trans (by (simp (maxDischargeDepth := 8) [go_sem, World.cell?_alloc_past, ltk2, ltk3, ltk4, ltk5, ltk6, ltk7, ltk8, ltk9, *]))
  have cc34_5 : v34.cell? ⟨v28.heap.size, 1, none⟩ = some (.int .i64 1) := (hb34.cell (p := ⟨v28.heap.size, 1, none⟩) (by first | omega | (simp [ext_size]; try omega))).trans (by (simp (maxDischargeDepth := 8) [go_sem, World.cell?_alloc_past, ltk2, ltk3, ltk4, ltk5, ltk6, ltk7, ltk8, ltk9, *]))
  have zl34_0 : v22.heap.size < v34.heap.size := by omega
  have zl34_1 : v25.heap.size < v34.heap.size := by omega
  have zl34_2 : v28.heap.size < v34.heap.size := by omega
  have hB34 : Below w.heap.size w v34 := Below.trans (by (repeat (first | with_reducible exact hB33 | (with_reducible refine bext ?_ _ _) | (with_reducible refine below_drewN ?_ _) | (with_reducible refine Below.drew ?_) | (with_reducible refine bal ?_ _) | (with_reducible refine bset ?_ (by first | omega | (simp <;> omega)) _)))) (hb34.mono (by first | omega | (simp [ext_size]; try omega)))
  have zw34 := hB34.size
  clear hb34
  clear cc33_0 cc33_1 cc33_2 cc33_3 cc33_4 cc33_5 zl33_0 zl33_1 zl33_2 zz33 zw33 hB33
  go_wp2_with fail
  with_reducible refine (A35 _).mono ?_
  rintro e v35 ⟨rfl, hb35⟩
  have zz35 := hb35.size
  try simp [ext_size] at zz35
  have cc35_0 : v35.cell? ⟨v22.heap.size, 0, none⟩ = some (.int .i64 3000) := (hb35.cell (p := ⟨v22.heap.size, 0, none⟩) (by first | omega | (simp [ext_size]; try omega))).trans (by (simp (maxDischargeDepth := 8) [go_sem, World.cell?_alloc_past, ltk2, ltk3, ltk4, ltk5, ltk6, ltk7, ltk8, ltk9, *]))
  have cc35_1 : v35.cell? ⟨v22.heap.size, 1, none⟩ = some (.int .i64 3000000000) := (hb35.cell (p := ⟨v22.heap.size, 1, none⟩) (by first | omega | (simp [ext_size]; try omega))).trans (by (simp (maxDischargeDepth := 8) [go_sem, World.cell?_alloc_past, ltk2, ltk3, ltk4, ltk5, ltk6, ltk7, ltk8, ltk9, *]))
  have cc35_2 : v35.cell? ⟨v25.heap.size, 0, none⟩ = some (.int .i64 (-3000000000)) := (hb35.cell (p := ⟨v25.heap.size, 0, none⟩) (by first | omega | (simp [ext_size]; try omega))).trans (by (simp (maxDischargeDepth := 8) [go_sem, World.cell?_alloc_past, ltk2, ltk3, ltk4, ltk5, ltk6, ltk7, ltk8, ltk9, *]))
  have cc35_3 : v35.cell? ⟨v25.heap.size, 1, none⟩ = some (.int .i64 (-3000000000)) := (hb35.cell (p := ⟨v25.heap.size, 1, none⟩) (by first | omega | (simp [ext_size]; try omega))).trans (by (simp (maxDischargeDepth := 8) [go_sem, World.cell?_alloc_past, ltk2, ltk3, ltk4, ltk5, ltk6, ltk7, ltk8, ltk9, *]))
  have cc35_4 : v35.cell? ⟨v28.heap.size, 0, none⟩ = some (.int .i64 0) := (hb35.cell (p := ⟨v28.heap.size, 0, none⟩) (by first | omega | (simp [ext_size]; try omega))).trans (by (simp (maxDischargeDepth := 8) [go_sem, World.cell?_alloc_past, ltk2, ltk3, ltk4, ltk5, ltk6, ltk7, ltk8, ltk9, *]))
  have cc35_5 : v35.cell? ⟨v28.heap.size, 1, none⟩ = some (.int .i64 1) := (hb35.cell (p := ⟨v28.heap.size, 1, none⟩) (by first | omega | (simp [ext_size]; try omega))).trans (by (simp (maxDischargeDepth := 8) [go_sem, World.cell?_alloc_past, ltk2, ltk3, ltk4, ltk5, ltk6, ltk7, ltk8, ltk9, *]))
  have zl35_0 : v22.heap.size < v35.heap.size := by omega
  have zl35_1 : v25.heap.size < v35.heap.size := by omega
  have zl35_2 : v28.heap.size < v35.heap.size := by omega
  have hB35 : Below w.heap.size w v35 := Below.trans (by (repeat (first | with_reducible exact hB34 | (with_reducible refine bext ?_ _ _) | (with_reducible refine below_drewN ?_ _) | (with_reducible refine Below.drew ?_) | (with_reducible refine bal ?_ _) | (with_reducible refine bset ?_ (by first | omega | (simp <;> omega)) _)))) (hb35.mono (by first | omega | (simp [ext_size]; try omega)))
  have zw35 := hB35.size
  clear hb35
  clear cc34_0 cc34_1 cc34_2 cc34_3 cc34_4 cc34_5 zl34_0 zl34_1 zl34_2 zz34 zw34 hB34
  go_wp2_with fail
  with_reducible refine (A36 _).mono ?_
  rintro e v36 ⟨rfl, hb36⟩
  have zz36 := hb36.size
  try simp [ext_size] at zz36
  have cc36_0 : v36.cell? ⟨v22.heap.size, 0, none⟩ = some (.int .i64 3000) := (hb36.cell (p := ⟨v22.heap.size, 0, none⟩) (by first | omega | (simp [ext_size]; try omega))).trans (by (simp (maxDischargeDepth := 8) [go_sem, World.cell?_alloc_past, ltk2, ltk3, ltk4, ltk5, ltk6, ltk7, ltk8, ltk9, *]))
  have cc36_1 : v36.cell? ⟨v22.heap.size, 1, none⟩ = some (.int .i64 3000000000) := (hb36.cell (p := ⟨v22.heap.size, 1, none⟩) (by first | omega | (simp [ext_size]; try omega))).trans (by (simp (maxDischargeDepth := 8) [go_sem, World.cell?_alloc_past, ltk2, ltk3, ltk4, ltk5, ltk6, ltk7, ltk8, ltk9, *]))
  have cc36_2 : v36.cell? ⟨v25.heap.size, 0, none⟩ = some (.int .i64 (-3000000000)) := (hb36.cell (p := ⟨v25.heap.size, 0, none⟩) (by first | omega | (simp [ext_size]; try omega))).trans (by (simp (maxDischargeDepth := 8) [go_sem, World.cell?_alloc_past, ltk2, ltk3, ltk4, ltk5, ltk6, ltk7, ltk8, ltk9, *]))
  have cc36_3 : v36.cell? ⟨v25.heap.size, 1, none⟩ = some (.int .i64 (-3000000000)) := (hb36.cell (p := ⟨v25.heap.size, 1, none⟩) (by first | omega | (simp [ext_size]; try omega))).trans (by (simp (maxDischargeDepth := 8) [go_sem, World.cell?_alloc_past, ltk2, ltk3, ltk4, ltk5, ltk6, ltk7, ltk8, ltk9, *]))
  have cc36_4 : v36.cell? ⟨v28.heap.size, 0, none⟩ = some (.int .i64 0) := (hb36.cell (p := ⟨v28.heap.size, 0, none⟩) (by first | omega | (simp [ext_size]; try omega))).trans (by (simp (maxDischargeDepth := 8) [go_sem, World.cell?_alloc_past, ltk2, ltk3, ltk4, ltk5, ltk6, ltk7, ltk8, ltk9, *]))
  have cc36_5 : v36.cell? ⟨v28.heap.size, 1, none⟩ = some (.int .i64 1) := (hb36.cell (p := ⟨v28.heap.size, 1, none⟩) (by first | omega | (simp [ext_size]; try omega))).trans (by (simp (maxDischargeDepth := 8) [go_sem, World.cell?_alloc_past, ltk2, ltk3, ltk4, ltk5, ltk6, ltk7, ltk8, ltk9, *]))
  have zl36_0 : v22.heap.size < v36.heap.size := by omega
  have zl36_1 : v25.heap.size < v36.heap.size := by omega
  have zl36_2 : v28.heap.size < v36.heap.size := by omega
  have hB36 : Below w.heap.size w v36 := Below.trans (by (repeat (first | with_reducible exact hB35 | (with_reducible refine bext ?_ _ _) | (with_reducible refine below_drewN ?_ _) | (with_reducible refine Below.drew ?_) | (with_reducible refine bal ?_ _) | (with_reducible refine bset ?_ (by first | omega | (simp <;> omega)) _)))) (hb36.mono (by first | omega | (simp [ext_size]; try omega)))
  have zw36 := hB36.size
  clear hb36
  clear cc35_0 cc35_1 cc35_2 cc35_3 cc35_4 cc35_5 zl35_0 zl35_1 zl35_2 zz35 zw35 hB35
  go_wp2_with fail
  with_reducible refine (A37 _).mono ?_
  rintro e v37 ⟨rfl, hb37⟩
  have zz37 := hb37.size
  try simp [ext_size] at zz37
  have cc37_0 : v37.cell? ⟨v22.heap.size, 0, none⟩ = some (.int .i64 3000) := (hb37.cell (p := ⟨v22.heap.size, 0, none⟩) (by first | omega | (simp [ext_size]; try omega))).trans (by (simp (maxDischargeDepth := 8) [go_sem, World.cell?_alloc_past, ltk2, ltk3, ltk4, ltk5, ltk6, ltk7, ltk8, ltk9, *]))
  have cc37_1 : v37.cell? ⟨v22.heap.size, 1, none⟩ = some (.int .i64 3000000000) := (hb37.cell (p := ⟨v22.heap.size, 1, none⟩) (by first | omega | (simp [ext_size]; try omega))).trans (by (simp (maxDischargeDepth := 8) [go_sem, World.cell?_alloc_past, ltk2, ltk3, ltk4, ltk5, ltk6, ltk7, ltk8, ltk9, *]))
  have cc37_2 : v37.cell? ⟨v25.heap.size, 0, none⟩ = some (.int .i64 (-3000000000)) := (hb37.cell (p := ⟨v25.heap.size, 0, none⟩) (by first | omega | (simp [ext_size]; try omega))).trans (by (simp (maxDischargeDepth := 8) [go_sem, World.cell?_alloc_past, ltk2, ltk3, ltk4, ltk5, ltk6, ltk7, ltk8, ltk9, *]))
  have cc37_3 : v37.cell? ⟨v25.heap.size, 1, none⟩ = some (.int .i64 (-3000000000)) := (hb37.cell (p := ⟨v25.heap.size, 1, none⟩) (by first | omega | (simp [ext_size]; try omega))).trans (by (simp (maxDischargeDepth := 8) [go_sem, World.cell?_alloc_past, ltk2, ltk3, ltk4, ltk5, ltk6, ltk7, ltk8, ltk9, *]))
  have cc37_4 : v37.cell? ⟨v28.heap.size, 0, none⟩ = some (.int .i64 0) := (hb37.cell (p := ⟨v28.heap.size, 0, none⟩) (by first | omega | (simp [ext_size]; try omega))).trans (by (simp (maxDischargeDepth := 8) [go_sem, World.cell?_alloc_past, ltk2, ltk3, ltk4, ltk5, ltk6, ltk7, ltk8, ltk9, *]))
  have cc37_5 : v37.cell? ⟨v28.heap.size, 1, none⟩ = some (.int .i64 1) := (hb37.cell (p := ⟨v28.heap.size, 1, none⟩) (by first | omega | (simp [ext_size]; try omega))).trans (by (simp (maxDischargeDepth := 8) [go_sem, World.cell?_alloc_past, ltk2, ltk3, ltk4, ltk5, ltk6, ltk7, ltk8, ltk9, *]))
  have zl37_0 : v22.heap.size < v37.heap.size := by omega
  have zl37_1 : v25.heap.size < v37.heap.size := by omega
  have zl37_2 : v28.heap.size < v37.heap.size := by omega
  have hB37 : Below w.heap.size w v37 := Below.trans (by (repeat (first | with_reducible exact hB36 | (with_reducible refine bext ?_ _ _) | (with_reducible refine below_drewN ?_ _) | (with_reducible refine Below.drew ?_) | (with_reducible refine bal ?_ _) | (with_reducible refine bset ?_ (by first | omega | (simp <;> omega)) _)))) (hb37.mono (by first | omega | (simp [ext_size]; try omega)))
  have zw37 := hB37.size
  clear hb37
  clear cc36_0 cc36_1 cc36_2 cc36_3 cc36_4 cc36_5 zl36_0 zl36_1 zl36_2 zz36 zw36 hB36
  go_wp2_with fail
  with_reducible refine (AL _).mono ?_
  rintro e v38 ⟨rfl, hb38⟩
  have zz38 := hb38.size
  try simp [ext_size] at zz38
  have cc38_0 : v38.cell? ⟨v22.heap.size, 0, none⟩ = some (.int .i64 3000) := (hb38.cell (p := ⟨v22.heap.size, 0, none⟩) (by first | omega | (simp [ext_size]; try omega))).trans (by (simp (maxDischargeDepth := 8) [go_sem, World.cell?_alloc_past, ltk2, ltk3, ltk4, ltk5, ltk6, ltk7, ltk8, ltk9, *]))
  have cc38_1 : v38.cell? ⟨v22.heap.size, 1, none⟩ = some (.int .i64 3000000000) := (hb38.cell (p := ⟨v22.heap.size, 1, none⟩) (by first | omega | (simp [ext_size]; try omega))).trans (by (simp (maxDischargeDepth := 8) [go_sem, World.cell?_alloc_past, ltk2, ltk3, ltk4, ltk5, ltk6, ltk7, ltk8, ltk9, *]))
  have cc38_2 : v38.cell? ⟨v25.heap.size, 0, none⟩ = some (.int .i64 (-3000000000)) := (hb38.cell (p := ⟨v25.heap.size, 0, none⟩) (by first | omega | (simp [ext_size]; try omega))).trans (by (simp (maxDischargeDepth := 8) [go_sem, World.cell?_alloc_past, ltk2, ltk3, ltk4, ltk5, ltk6, ltk7, ltk8, ltk9, *]))
  have cc38_3 : v38.cell? ⟨v25.heap.size, 1, none⟩ = some (.int .i64 (-3000000000)) := (hb38.cell (p := ⟨v25.heap.size, 1, none⟩) (by first | omega | (simp [ext_size]; try omega))).trans (by (simp (maxDischargeDepth := 8) [go_sem, World.cell?_alloc_past, ltk2, ltk3, ltk4, ltk5, ltk6, ltk7, ltk8, ltk9, *]))
  have cc38_4 : v38.cell? ⟨v28.heap.size, 0, none⟩ = some (.int .i64 0) := (hb38.cell (p := ⟨v28.heap.size, 0, none⟩) (by first | omega | (simp [ext_size]; try omega))).trans (by (simp (maxDischargeDepth := 8) [go_sem, World.cell?_alloc_past, ltk2, ltk3, ltk4, ltk5, ltk6, ltk7, ltk8, ltk9, *]))
  have cc38_5 : v38.cell? ⟨v28.heap.size, 1, none⟩ = some (.int .i64 1) := (hb38.cell (p := ⟨v28.heap.size, 1, none⟩) (by first | omega | (simp [ext_size]; try omega))).trans (by (simp (maxDischargeDepth := 8) [go_sem, World.cell?_alloc_past, ltk2, ltk3, ltk4, ltk5, ltk6, ltk7, ltk8, ltk9, *]))
  have zl38_0 : v22.heap.size < v38.heap.size := by omega
  have zl38_1 : v25.heap.size < v38.heap.size := by omega
  have zl38_2 : v28.heap.size < v38.heap.size := by omega
  have hB38 : Below w.heap.size w v38 := Below.trans (by (repeat (first | with_reducible exact hB37 | (with_reducible refine bext ?_ _ _) | (with_reducible refine below_drewN ?_ _) | (with_reducible refine Below.drew ?_) | (with_reducible refine bal ?_ _) | (with_reducible refine bset ?_ (by first | omega | (simp <;> omega)) _)))) (hb38.mono (by first | omega | (simp [ext_size]; try omega)))
  have zw38 := hB38.size
  clear hb38
  clear cc37_0 cc37_1 cc37_2 cc37_3 cc37_4 cc37_5 zl37_0 zl37_1 zl37_2 zz37 zw37 hB37
  go_wp2
  go_ret
  exact ⟨rfl, by (repeat (first | with_reducible exact hB38 | (with_reducible refine bext ?_ _ _) | (with_reducible refine below_drewN ?_ _) | (with_reducible refine Below.drew ?_) | (with_reducible refine bal ?_ _) | (with_reducible refine bset ?_ (by first | omega | (simp <;> omega)) _)))⟩
end Go.Proofs.Ytilcgbloangcmaa
