/-
  SineCircle, walked: the first of four ends.
-/
import Derived.Test.YtilcgbloangcmaaSr
import Derived.Test.YtilcgbloangcmaaSv
import Derived.StillTailTactics
namespace Go.Proofs.Ytilcgbloangcmaa
open Go.RowKit
set_option linter.unusedVariables false
set_option linter.unusedSimpArgs false

set_option maxRecDepth 100000 in
set_option maxHeartbeats 12800000 in
theorem circle_1 (k : Int) (n : Nat) (h1 : 1 ≤ n) (h2 : n ≤ 720) (k1 : -1000000 ≤ k) (k2 : k ≤ 1000000) (hF : ((12 * k.tmod n).tmod (n : Int) == 0) = true ∧ ((4 * k.tmod n).tmod (n : Int) == 0) = true ∧ (coL k n == coH k n) = true ∧ (siL k n == siH k n) = true) (w : World) :
    Calls Try.prog 6 #[.int .i64 k, .int .i64 n] w fun x w' => x = .returned (.bool true) ∧ Below w.heap.size w w' := by
  have hn : nOk (n : Int) = true := by simp [nOk]; omega
  have hT : ((n : Int)).toNat = n := by omega
  have AL := fun w => law5_alive w
  have A1 := fun w => sine_Cos k n (by omega) (by omega) w
  have A2 := fun w => sine_Sin k n (by omega) (by omega) w
  have A3 := fun w => sine_Mul (coL k n) (coH k n) (coL k n) (coH k n) w
  have A4 := fun w => sine_Mul (siL k n) (siH k n) (siL k n) (siH k n) w
  have A5 := fun w => sine_Add (smL (coL k n) (coH k n) (coL k n) (coH k n)) (smH (coL k n) (coH k n) (coL k n) (coH k n)) (smL (siL k n) (siH k n) (siL k n) (siH k n)) (smH (siL k n) (siH k n) (siL k n) (siH k n)) w
  have A6 := fun w => sine_Cos (k + n) n (by omega) (by omega) w
  have A7 := fun w => sine_Sin (-k) n (by omega) (by omega) w
  have A8 := fun w => sine_Cos (k + (n : Int) / 2) n (by omega) (by omega) w
  have A9 := fun w => sine_Sin (k + (n : Int) / 4) n (by omega) (by omega) w
  have hm := tmod_bd k n (by omega)
  have F0 : coE (n : Int) = 0 := by rw [coE, if_pos hn]
  have G1 : coL k n = csL (4 * k.tmod n) n := by rw [coL, if_pos hn, hT]
  have G2 : coH k n = csH (4 * k.tmod n) n := by rw [coH, if_pos hn, hT]
  have G3 : siL k n = csL (4 * k.tmod n - n) n := by rw [siL, if_pos hn, hT]
  have G4 : siH k n = csH (4 * k.tmod n - n) n := by rw [siH, if_pos hn, hT]
  obtain ⟨c1, c2, c3, c4⟩ := cs_bd (4 * k.tmod n) n h1 h2
  obtain ⟨s1, s2, s3, s4⟩ := cs_bd (4 * k.tmod n - n) n h1 h2
  obtain ⟨q1, q2, q3, q4, q5⟩ := cs_one (4 * k.tmod n) n h1 h2
  simp only [← G1, ← G2, ← G3, ← G4] at c1 c2 c3 c4 s1 s2 s3 s4 q1 q2 q3 q4 q5
  obtain ⟨m1, m2⟩ := co_plus k n h1 h2
  obtain ⟨m3, m4⟩ := si_neg k n h1 h2
  rw [m1, m2, F0] at A6
  rw [m3, m4, F0] at A7
  rw [F0] at A1 A2
  rw [q1] at A3
  rw [q2] at A4
  rw [q3] at A5
  have HA8 : n % 2 = 0 → ∀ w, Calls Try.prog 11 #[.int .i64 (k + (n : Int) / 2), .int .i64 n] w fun e w' => e = .returned (.tuple #[.agg #[.int .i64 (-coH k n), .int .i64 (-coL k n)], .int .i64 0]) ∧ Below w.heap.size w w' := by
    intro he w
    obtain ⟨u1, u2⟩ := co_half k n h1 h2 he
    rw [Int.natCast_ediv] at u1 u2
    have := A8 w
    rw [F0, show (k + (n : Int) / 2) = k + (n : Int) / ((2 : Nat) : Int) from rfl, u1, u2] at this
    exact this
  have HA9 : n % 4 = 0 → ∀ w, Calls Try.prog 12 #[.int .i64 (k + (n : Int) / 4), .int .i64 n] w fun e w' => e = .returned (.tuple #[.agg #[.int .i64 (coL k n), .int .i64 (coH k n)], .int .i64 0]) ∧ Below w.heap.size w w' := by
    intro he w
    obtain ⟨u1, u2⟩ := si_quarter k n h1 h2 he
    rw [Int.natCast_ediv] at u1 u2
    have := A9 w
    rw [F0, show (k + (n : Int) / 4) = k + (n : Int) / ((4 : Nat) : Int) from rfl, u1, u2] at this
    exact this
  have KA8 := Lib.hid HA8
  have KA9 := Lib.hid HA9
  clear HA8 HA9 A8 A9 G1 G2 G3 G4 m1 m2 m3 m4 F0 q1 q2 q3 hT hn
  have N1 := fun w => ref5_Neg (siL k n) (siH k n) (by omega) (by omega) (by omega) (by omega) w
  have N2 := fun w => ref5_Neg (coL k n) (coH k n) (by omega) (by omega) (by omega) (by omega) w
  generalize saL (smL (coL k n) (coH k n) (coL k n) (coH k n)) (smH (coL k n) (coH k n) (coL k n) (coH k n)) (smL (siL k n) (siH k n) (siL k n) (siH k n)) (smH (siL k n) (siH k n) (siL k n) (siH k n)) = o0 at *
  generalize saH (smL (coL k n) (coH k n) (coL k n) (coH k n)) (smH (coL k n) (coH k n) (coL k n) (coH k n)) (smL (siL k n) (siH k n) (siL k n) (siH k n)) (smH (siL k n) (siH k n) (siL k n) (siH k n)) = o1 at *
  generalize smL (coL k n) (coH k n) (coL k n) (coH k n) = x0 at *
  generalize smH (coL k n) (coH k n) (coL k n) (coH k n) = x1 at *
  generalize smL (siL k n) (siH k n) (siL k n) (siH k n) = y0 at *
  generalize smH (siL k n) (siH k n) (siL k n) (siH k n) = y1 at *
  generalize coL k n = p0 at *
  generalize coH k n = p1 at *
  generalize siL k n = r0 at *
  generalize siH k n = r1 at *
  obtain ⟨m, hmm⟩ : ∃ m, k.tmod n = m := ⟨_, rfl⟩
  rw [hmm] at hm hF
  have HF := Lib.hid hF
  have HM := Lib.hid hmm
  clear hF hmm
  have WA : IntKind.i64.wrap (p1 - p0) = p1 - p0 := IntWalk.i64_in _ (by omega)
  have WB : IntKind.i64.wrap (r1 - r0) = r1 - r0 := IntWalk.i64_in _ (by omega)
  have dAl := dAl; have dSt := dSt; have xC := ext_cell; have xF := ext_frozen; have xS := ext_set; have xN := ext_drewN; have xD := ext_drew; have xL := ext_lt; have xE := ext_ne; have xG := ext_nr; have xX := ext_ext; have xL1 := ext_lt1; have xL2 := ext_lt2; have xL3 := ext_lt3; have xM0 := ext_le0; have xM1 := ext_le1; have xM2 := ext_le2
  go_enter Try.func6, Try.ntmps6
  go_wp2_with fail
  with_reducible refine (A1 _).mono ?_
  rintro e v1 ⟨rfl, hb1⟩
  have zz1 := hb1.size
  try simp [ext_size] at zz1
  have hB1 : Below w.heap.size w v1 := Below.trans (by (repeat (first | with_reducible exact b0 _ | (with_reducible refine bext ?_ _ _) | (with_reducible refine below_drewN ?_ _) | (with_reducible refine Below.drew ?_) | (with_reducible refine bal ?_ _)))) (hb1.mono (by first | omega | (simp [ext_size]; try omega)))
  have zw1 := hB1.size
  clear hb1
  go_wp2_with fail
  with_reducible refine (A2 _).mono ?_
  rintro e v2 ⟨rfl, hb2⟩
  have zz2 := hb2.size
  try simp [ext_size] at zz2
  have cc2_0 : v2.cell? ⟨v1.heap.size, 0, none⟩ = some (.int .i64 p0) := (hb2.cell (p := ⟨v1.heap.size, 0, none⟩) (by first | omega | (simp [ext_size]; try omega))).trans (by (simp (maxDischargeDepth := 8) [go_sem, World.cell?_alloc_past, ltk2, ltk3, ltk4, ltk5, ltk6, ltk7, ltk8, ltk9, *]))
  have cc2_1 : v2.cell? ⟨v1.heap.size, 1, none⟩ = some (.int .i64 p1) := (hb2.cell (p := ⟨v1.heap.size, 1, none⟩) (by first | omega | (simp [ext_size]; try omega))).trans (by (simp (maxDischargeDepth := 8) [go_sem, World.cell?_alloc_past, ltk2, ltk3, ltk4, ltk5, ltk6, ltk7, ltk8, ltk9, *]))
  have zl2_0 : v1.heap.size < v2.heap.size := by omega
  have hB2 : Below w.heap.size w v2 := Below.trans (by (repeat (first | with_reducible exact hB1 | (with_reducible refine bext ?_ _ _) | (with_reducible refine below_drewN ?_ _) | (with_reducible refine Below.drew ?_) | (with_reducible refine bal ?_ _) | (with_reducible refine bset ?_ (by first | omega | (simp <;> omega)) _)))) (hb2.mono (by first | omega | (simp [ext_size]; try omega)))
  have zw2 := hB2.size
  clear hb2
  clear zz1 zw1 hB1
  go_wp2_with fail
  with_reducible refine (A3 _).mono ?_
  rintro e v3 ⟨rfl, hb3⟩
  have zz3 := hb3.size
  try simp [ext_size] at zz3
  have cc3_0 : v3.cell? ⟨v1.heap.size, 0, none⟩ = some (.int .i64 p0) := (hb3.cell (p := ⟨v1.heap.size, 0, none⟩) (by first | omega | (simp [ext_size]; try omega))).trans (by (simp (maxDischargeDepth := 8) [go_sem, World.cell?_alloc_past, ltk2, ltk3, ltk4, ltk5, ltk6, ltk7, ltk8, ltk9, *]))
  have cc3_1 : v3.cell? ⟨v1.heap.size, 1, none⟩ = some (.int .i64 p1) := (hb3.cell (p := ⟨v1.heap.size, 1, none⟩) (by first | omega | (simp [ext_size]; try omega))).trans (by (simp (maxDischargeDepth := 8) [go_sem, World.cell?_alloc_past, ltk2, ltk3, ltk4, ltk5, ltk6, ltk7, ltk8, ltk9, *]))
  have cc3_2 : v3.cell? ⟨v2.heap.size, 0, none⟩ = some (.int .i64 r0) := (hb3.cell (p := ⟨v2.heap.size, 0, none⟩) (by first | omega | (simp [ext_size]; try omega))).trans (by (simp (maxDischargeDepth := 8) [go_sem, World.cell?_alloc_past, ltk2, ltk3, ltk4, ltk5, ltk6, ltk7, ltk8, ltk9, *]))
  have cc3_3 : v3.cell? ⟨v2.heap.size, 1, none⟩ = some (.int .i64 r1) := (hb3.cell (p := ⟨v2.heap.size, 1, none⟩) (by first | omega | (simp [ext_size]; try omega))).trans (by (simp (maxDischargeDepth := 8) [go_sem, World.cell?_alloc_past, ltk2, ltk3, ltk4, ltk5, ltk6, ltk7, ltk8, ltk9, *]))
  have zl3_0 : v1.heap.size < v3.heap.size := by omega
  have zl3_1 : v2.heap.size < v3.heap.size := by omega
  have hB3 : Below w.heap.size w v3 := Below.trans (by (repeat (first | with_reducible exact hB2 | (with_reducible refine bext ?_ _ _) | (with_reducible refine below_drewN ?_ _) | (with_reducible refine Below.drew ?_) | (with_reducible refine bal ?_ _) | (with_reducible refine bset ?_ (by first | omega | (simp <;> omega)) _)))) (hb3.mono (by first | omega | (simp [ext_size]; try omega)))
  have zw3 := hB3.size
  clear hb3
  clear cc2_0 cc2_1 zl2_0 zz2 zw2 hB2
  go_wp2_with fail
  with_reducible refine (A4 _).mono ?_
  rintro e v4 ⟨rfl, hb4⟩
  have zz4 := hb4.size
  try simp [ext_size] at zz4
  have cc4_0 : v4.cell? ⟨v1.heap.size, 0, none⟩ = some (.int .i64 p0) := (hb4.cell (p := ⟨v1.heap.size, 0, none⟩) (by first | omega | (simp [ext_size]; try omega))).trans (by (simp (maxDischargeDepth := 8) [go_sem, World.cell?_alloc_past, ltk2, ltk3, ltk4, ltk5, ltk6, ltk7, ltk8, ltk9, *]))
  have cc4_1 : v4.cell? ⟨v1.heap.size, 1, none⟩ = some (.int .i64 p1) := (hb4.cell (p := ⟨v1.heap.size, 1, none⟩) (by first | omega | (simp [ext_size]; try omega))).trans (by (simp (maxDischargeDepth := 8) [go_sem, World.cell?_alloc_past, ltk2, ltk3, ltk4, ltk5, ltk6, ltk7, ltk8, ltk9, *]))
  have cc4_2 : v4.cell? ⟨v2.heap.size, 0, none⟩ = some (.int .i64 r0) := (hb4.cell (p := ⟨v2.heap.size, 0, none⟩) (by first | omega | (simp [ext_size]; try omega))).trans (by (simp (maxDischargeDepth := 8) [go_sem, World.cell?_alloc_past, ltk2, ltk3, ltk4, ltk5, ltk6, ltk7, ltk8, ltk9, *]))
  have cc4_3 : v4.cell? ⟨v2.heap.size, 1, none⟩ = some (.int .i64 r1) := (hb4.cell (p := ⟨v2.heap.size, 1, none⟩) (by first | omega | (simp [ext_size]; try omega))).trans (by (simp (maxDischargeDepth := 8) [go_sem, World.cell?_alloc_past, ltk2, ltk3, ltk4, ltk5, ltk6, ltk7, ltk8, ltk9, *]))
  have cc4_4 : v4.cell? ⟨v3.heap.size, 0, none⟩ = some (.int .i64 x0) := (hb4.cell (p := ⟨v3.heap.size, 0, none⟩) (by first | omega | (simp [ext_size]; try omega))).trans (by (simp (maxDischargeDepth := 8) [go_sem, World.cell?_alloc_past, ltk2, ltk3, ltk4, ltk5, ltk6, ltk7, ltk8, ltk9, *]))
  have cc4_5 : v4.cell? ⟨v3.heap.size, 1, none⟩ = some (.int .i64 x1) := (hb4.cell (p := ⟨v3.heap.size, 1, none⟩) (by first | omega | (simp [ext_size]; try omega))).trans (by (simp (maxDischargeDepth := 8) [go_sem, World.cell?_alloc_past, ltk2, ltk3, ltk4, ltk5, ltk6, ltk7, ltk8, ltk9, *]))
  have zl4_0 : v1.heap.size < v4.heap.size := by omega
  have zl4_1 : v2.heap.size < v4.heap.size := by omega
  have zl4_2 : v3.heap.size < v4.heap.size := by omega
  have hB4 : Below w.heap.size w v4 := Below.trans (by (repeat (first | with_reducible exact hB3 | (with_reducible refine bext ?_ _ _) | (with_reducible refine below_drewN ?_ _) | (with_reducible refine Below.drew ?_) | (with_reducible refine bal ?_ _) | (with_reducible refine bset ?_ (by first | omega | (simp <;> omega)) _)))) (hb4.mono (by first | omega | (simp [ext_size]; try omega)))
  have zw4 := hB4.size
  clear hb4
  clear cc3_0 cc3_1 cc3_2 cc3_3 zl3_0 zl3_1 zz3 zw3 hB3
  go_wp2_with fail
  with_reducible refine (A5 _).mono ?_
  rintro e v5 ⟨rfl, hb5⟩
  have zz5 := hb5.size
  try simp [ext_size] at zz5
  have cc5_0 : v5.cell? ⟨v1.heap.size, 0, none⟩ = some (.int .i64 p0) := (hb5.cell (p := ⟨v1.heap.size, 0, none⟩) (by first | omega | (simp [ext_size]; try omega))).trans (by (simp (maxDischargeDepth := 8) [go_sem, World.cell?_alloc_past, ltk2, ltk3, ltk4, ltk5, ltk6, ltk7, ltk8, ltk9, *]))
  have cc5_1 : v5.cell? ⟨v1.heap.size, 1, none⟩ = some (.int .i64 p1) := (hb5.cell (p := ⟨v1.heap.size, 1, none⟩) (by first | omega | (simp [ext_size]; try omega))).trans (by (simp (maxDischargeDepth := 8) [go_sem, World.cell?_alloc_past, ltk2, ltk3, ltk4, ltk5, ltk6, ltk7, ltk8, ltk9, *]))
  have cc5_2 : v5.cell? ⟨v2.heap.size, 0, none⟩ = some (.int .i64 r0) := (hb5.cell (p := ⟨v2.heap.size, 0, none⟩) (by first | omega | (simp [ext_size]; try omega))).trans (by (simp (maxDischargeDepth := 8) [go_sem, World.cell?_alloc_past, ltk2, ltk3, ltk4, ltk5, ltk6, ltk7, ltk8, ltk9, *]))
  have cc5_3 : v5.cell? ⟨v2.heap.size, 1, none⟩ = some (.int .i64 r1) := (hb5.cell (p := ⟨v2.heap.size, 1, none⟩) (by first | omega | (simp [ext_size]; try omega))).trans (by (simp (maxDischargeDepth := 8) [go_sem, World.cell?_alloc_past, ltk2, ltk3, ltk4, ltk5, ltk6, ltk7, ltk8, ltk9, *]))
  have cc5_4 : v5.cell? ⟨v3.heap.size, 0, none⟩ = some (.int .i64 x0) := (hb5.cell (p := ⟨v3.heap.size, 0, none⟩) (by first | omega | (simp [ext_size]; try omega))).trans (by (simp (maxDischargeDepth := 8) [go_sem, World.cell?_alloc_past, ltk2, ltk3, ltk4, ltk5, ltk6, ltk7, ltk8, ltk9, *]))
  have cc5_5 : v5.cell? ⟨v3.heap.size, 1, none⟩ = some (.int .i64 x1) := (hb5.cell (p := ⟨v3.heap.size, 1, none⟩) (by first | omega | (simp [ext_size]; try omega))).trans (by (simp (maxDischargeDepth := 8) [go_sem, World.cell?_alloc_past, ltk2, ltk3, ltk4, ltk5, ltk6, ltk7, ltk8, ltk9, *]))
  have cc5_6 : v5.cell? ⟨v4.heap.size, 0, none⟩ = some (.int .i64 y0) := (hb5.cell (p := ⟨v4.heap.size, 0, none⟩) (by first | omega | (simp [ext_size]; try omega))).trans (by (simp (maxDischargeDepth := 8) [go_sem, World.cell?_alloc_past, ltk2, ltk3, ltk4, ltk5, ltk6, ltk7, ltk8, ltk9, *]))
  have cc5_7 : v5.cell? ⟨v4.heap.size, 1, none⟩ = some (.int .i64 y1) := (hb5.cell (p := ⟨v4.heap.size, 1, none⟩) (by first | omega | (simp [ext_size]; try omega))).trans (by (simp (maxDischargeDepth := 8) [go_sem, World.cell?_alloc_past, ltk2, ltk3, ltk4, ltk5, ltk6, ltk7, ltk8, ltk9, *]))
  have zl5_0 : v1.heap.size < v5.heap.size := by omega
  have zl5_1 : v2.heap.size < v5.heap.size := by omega
  have zl5_2 : v3.heap.size < v5.heap.size := by omega
  have zl5_3 : v4.heap.size < v5.heap.size := by omega
  have hB5 : Below w.heap.size w v5 := Below.trans (by (repeat (first | with_reducible exact hB4 | (with_reducible refine bext ?_ _ _) | (with_reducible refine below_drewN ?_ _) | (with_reducible refine Below.drew ?_) | (with_reducible refine bal ?_ _) | (with_reducible refine bset ?_ (by first | omega | (simp <;> omega)) _)))) (hb5.mono (by first | omega | (simp [ext_size]; try omega)))
  have zw5 := hB5.size
  clear hb5
  clear cc4_0 cc4_1 cc4_2 cc4_3 cc4_4 cc4_5 zl4_0 zl4_1 zl4_2 zz4 zw4 hB4
  go_wp2_with fail
  with_reducible refine (A6 _).mono ?_
  rintro e v6 ⟨rfl, hb6⟩
  have zz6 := hb6.size
  try simp [ext_size] at zz6
  have cc6_0 : v6.cell? ⟨v1.heap.size, 0, none⟩ = some (.int .i64 p0) := (hb6.cell (p := ⟨v1.heap.size, 0, none⟩) (by first | omega | (simp [ext_size]; try omega))).trans (by (simp (maxDischargeDepth := 8) [go_sem, World.cell?_alloc_past, ltk2, ltk3, ltk4, ltk5, ltk6, ltk7, ltk8, ltk9, *]))
  have cc6_1 : v6.cell? ⟨v1.heap.size, 1, none⟩ = some (.int .i64 p1) := (hb6.cell (p := ⟨v1.heap.size, 1, none⟩) (by first | omega | (simp [ext_size]; try omega))).trans (by (simp (maxDischargeDepth := 8) [go_sem, World.cell?_alloc_past, ltk2, ltk3, ltk4, ltk5, ltk6, ltk7, ltk8, ltk9, *]))
  have cc6_2 : v6.cell? ⟨v2.heap.size, 0, none⟩ = some (.int .i64 r0) := (hb6.cell (p := ⟨v2.heap.size, 0, none⟩) (by first | omega | (simp [ext_size]; try omega))).trans (by (simp (maxDischargeDepth := 8) [go_sem, World.cell?_alloc_past, ltk2, ltk3, ltk4, ltk5, ltk6, ltk7, ltk8, ltk9, *]))
  have cc6_3 : v6.cell? ⟨v2.heap.size, 1, none⟩ = some (.int .i64 r1) := (hb6.cell (p := ⟨v2.heap.size, 1, none⟩) (by first | omega | (simp [ext_size]; try omega))).trans (by (simp (maxDischargeDepth := 8) [go_sem, World.cell?_alloc_past, ltk2, ltk3, ltk4, ltk5, ltk6, ltk7, ltk8, ltk9, *]))
  have cc6_4 : v6.cell? ⟨v5.heap.size, 0, none⟩ = some (.int .i64 o0) := (hb6.cell (p := ⟨v5.heap.size, 0, none⟩) (by first | omega | (simp [ext_size]; try omega))).trans (by (simp (maxDischargeDepth := 8) [go_sem, World.cell?_alloc_past, ltk2, ltk3, ltk4, ltk5, ltk6, ltk7, ltk8, ltk9, *]))
  have cc6_5 : v6.cell? ⟨v5.heap.size, 1, none⟩ = some (.int .i64 o1) := (hb6.cell (p := ⟨v5.heap.size, 1, none⟩) (by first | omega | (simp [ext_size]; try omega))).trans (by (simp (maxDischargeDepth := 8) [go_sem, World.cell?_alloc_past, ltk2, ltk3, ltk4, ltk5, ltk6, ltk7, ltk8, ltk9, *]))
  have zl6_0 : v1.heap.size < v6.heap.size := by omega
  have zl6_1 : v2.heap.size < v6.heap.size := by omega
  have zl6_2 : v5.heap.size < v6.heap.size := by omega
  have hB6 : Below w.heap.size w v6 := Below.trans (by (repeat (first | with_reducible exact hB5 | (with_reducible refine bext ?_ _ _) | (with_reducible refine below_drewN ?_ _) | (with_reducible refine Below.drew ?_) | (with_reducible refine bal ?_ _) | (with_reducible refine bset ?_ (by first | omega | (simp <;> omega)) _)))) (hb6.mono (by first | omega | (simp [ext_size]; try omega)))
  have zw6 := hB6.size
  clear hb6
  clear cc5_0 cc5_1 cc5_2 cc5_3 cc5_4 cc5_5 cc5_6 cc5_7 zl5_0 zl5_1 zl5_2 zl5_3 zz5 zw5 hB5
  go_wp2_with fail
  with_reducible refine (A7 _).mono ?_
  rintro e v7 ⟨rfl, hb7⟩
  have zz7 := hb7.size
  try simp [ext_size] at zz7
  have cc7_0 : v7.cell? ⟨v1.heap.size, 0, none⟩ = some (.int .i64 p0) := (hb7.cell (p := ⟨v1.heap.size, 0, none⟩) (by first | omega | (simp [ext_size]; try omega))).trans (by (simp (maxDischargeDepth := 8) [go_sem, World.cell?_alloc_past, ltk2, ltk3, ltk4, ltk5, ltk6, ltk7, ltk8, ltk9, *]))
  have cc7_1 : v7.cell? ⟨v1.heap.size, 1, none⟩ = some (.int .i64 p1) := (hb7.cell (p := ⟨v1.heap.size, 1, none⟩) (by first | omega | (simp [ext_size]; try omega))).trans (by (simp (maxDischargeDepth := 8) [go_sem, World.cell?_alloc_past, ltk2, ltk3, ltk4, ltk5, ltk6, ltk7, ltk8, ltk9, *]))
  have cc7_2 : v7.cell? ⟨v2.heap.size, 0, none⟩ = some (.int .i64 r0) := (hb7.cell (p := ⟨v2.heap.size, 0, none⟩) (by first | omega | (simp [ext_size]; try omega))).trans (by (simp (maxDischargeDepth := 8) [go_sem, World.cell?_alloc_past, ltk2, ltk3, ltk4, ltk5, ltk6, ltk7, ltk8, ltk9, *]))
  have cc7_3 : v7.cell? ⟨v2.heap.size, 1, none⟩ = some (.int .i64 r1) := (hb7.cell (p := ⟨v2.heap.size, 1, none⟩) (by first | omega | (simp [ext_size]; try omega))).trans (by (simp (maxDischargeDepth := 8) [go_sem, World.cell?_alloc_past, ltk2, ltk3, ltk4, ltk5, ltk6, ltk7, ltk8, ltk9, *]))
  have cc7_4 : v7.cell? ⟨v5.heap.size, 0, none⟩ = some (.int .i64 o0) := (hb7.cell (p := ⟨v5.heap.size, 0, none⟩) (by first | omega | (simp [ext_size]; try omega))).trans (by (simp (maxDischargeDepth := 8) [go_sem, World.cell?_alloc_past, ltk2, ltk3, ltk4, ltk5, ltk6, ltk7, ltk8, ltk9, *]))
  have cc7_5 : v7.cell? ⟨v5.heap.size, 1, none⟩ = some (.int .i64 o1) := (hb7.cell (p := ⟨v5.heap.size, 1, none⟩) (by first | omega | (simp [ext_size]; try omega))).trans (by (simp (maxDischargeDepth := 8) [go_sem, World.cell?_alloc_past, ltk2, ltk3, ltk4, ltk5, ltk6, ltk7, ltk8, ltk9, *]))
  have cc7_6 : v7.cell? ⟨v6.heap.size, 0, none⟩ = some (.int .i64 p0) := (hb7.cell (p := ⟨v6.heap.size, 0, none⟩) (by first | omega | (simp [ext_size]; try omega))).trans (by (simp (maxDischargeDepth := 8) [go_sem, World.cell?_alloc_past, ltk2, ltk3, ltk4, ltk5, ltk6, ltk7, ltk8, ltk9, *]))
  have cc7_7 : v7.cell? ⟨v6.heap.size, 1, none⟩ = some (.int .i64 p1) := (hb7.cell (p := ⟨v6.heap.size, 1, none⟩) (by first | omega | (simp [ext_size]; try omega))).trans (by (simp (maxDischargeDepth := 8) [go_sem, World.cell?_alloc_past, ltk2, ltk3, ltk4, ltk5, ltk6, ltk7, ltk8, ltk9, *]))
  have zl7_0 : v1.heap.size < v7.heap.size := by omega
  have zl7_1 : v2.heap.size < v7.heap.size := by omega
  have zl7_2 : v5.heap.size < v7.heap.size := by omega
  have zl7_3 : v6.heap.size < v7.heap.size := by omega
  have hB7 : Below w.heap.size w v7 := Below.trans (by (repeat (first | with_reducible exact hB6 | (with_reducible refine bext ?_ _ _) | (with_reducible refine below_drewN ?_ _) | (with_reducible refine Below.drew ?_) | (with_reducible refine bal ?_ _) | (with_reducible refine bset ?_ (by first | omega | (simp <;> omega)) _)))) (hb7.mono (by first | omega | (simp [ext_size]; try omega)))
  have zw7 := hB7.size
  clear hb7
  clear cc6_0 cc6_1 cc6_2 cc6_3 cc6_4 cc6_5 zl6_0 zl6_1 zl6_2 zz6 zw6 hB6
  clear A1 A2 A3 A4 A5 A6 A7
  go_upto_if 178 with fail
  have ONE0 : (1000000 < o0) = False := by simp; omega
  have ONE1 : (o1 < 1000000) = False := by simp; omega
  go_cut [178] (fun s178 wx => s178 = .bool false ∧ wx.cell? ⟨v1.heap.size, 0, none⟩ = some (.int .i64 p0) ∧ wx.cell? ⟨v1.heap.size, 1, none⟩ = some (.int .i64 p1) ∧ wx.cell? ⟨v2.heap.size, 0, none⟩ = some (.int .i64 r0) ∧ wx.cell? ⟨v2.heap.size, 1, none⟩ = some (.int .i64 r1) ∧ v1.heap.size < wx.heap.size ∧ v2.heap.size < wx.heap.size ∧ Below w.heap.size w wx)
  case first =>
    as_aux_lemma =>
      clear AL N2 KA8 KA9 HM WA WB hm
      go_region_held3 (fun w' => w'.cell? ⟨v1.heap.size, 0, none⟩ = some (.int .i64 p0) ∧ w'.cell? ⟨v1.heap.size, 1, none⟩ = some (.int .i64 p1) ∧ w'.cell? ⟨v2.heap.size, 0, none⟩ = some (.int .i64 r0) ∧ w'.cell? ⟨v2.heap.size, 1, none⟩ = some (.int .i64 r1) ∧ w'.cell? ⟨v5.heap.size, 0, none⟩ = some (.int .i64 o0) ∧ w'.cell? ⟨v5.heap.size, 1, none⟩ = some (.int .i64 o1) ∧ w'.cell? ⟨v6.heap.size, 0, none⟩ = some (.int .i64 p0) ∧ w'.cell? ⟨v6.heap.size, 1, none⟩ = some (.int .i64 p1) ∧ w'.cell? ⟨v7.heap.size, 0, none⟩ = some (.int .i64 (-r1)) ∧ w'.cell? ⟨v7.heap.size, 1, none⟩ = some (.int .i64 (-r0))) (simp (maxDischargeDepth := 8) [go_sem, World.cell?_alloc_past, ltk2, ltk3, ltk4, ltk5, ltk6, ltk7, ltk8, ltk9, *])
        ((go_at_call 29; with_reducible refine (N1 _).mono ?_; rintro e w9 ⟨rfl, hb9⟩; obtain ⟨l9, d9, rfl⟩ := toExt hb9; clear hb9))
      all_goals go_wp2_with fail
      all_goals go_meet
      all_goals refine ⟨rfl, by (simp (maxDischargeDepth := 8) [go_sem, World.cell?_alloc_past, ltk2, ltk3, ltk4, ltk5, ltk6, ltk7, ltk8, ltk9, *]), by (simp (maxDischargeDepth := 8) [go_sem, World.cell?_alloc_past, ltk2, ltk3, ltk4, ltk5, ltk6, ltk7, ltk8, ltk9, *]), by (simp (maxDischargeDepth := 8) [go_sem, World.cell?_alloc_past, ltk2, ltk3, ltk4, ltk5, ltk6, ltk7, ltk8, ltk9, *]), by (simp (maxDischargeDepth := 8) [go_sem, World.cell?_alloc_past, ltk2, ltk3, ltk4, ltk5, ltk6, ltk7, ltk8, ltk9, *]), by first | omega | (simp [ext_size]; try omega), by first | omega | (simp [ext_size]; try omega), by (repeat (first | with_reducible exact hB7 | (with_reducible refine bext ?_ _ _) | (with_reducible refine below_drewN ?_ _) | (with_reducible refine Below.drew ?_) | (with_reducible refine bal ?_ _) | (with_reducible refine bset ?_ (by first | omega | (simp <;> omega)) _)))⟩
  case rest =>
    clear N1 ONE0 ONE1 WA WB cc7_0 cc7_1 cc7_2 cc7_3 cc7_4 cc7_5 cc7_6 cc7_7 zl7_0 zl7_1 zl7_2 zl7_3 zz7 zw7 hB7
    obtain ⟨rfl, j1, j2, j3, j4, jy, jz, jB⟩ := hcut
    have jw := jB.size
    go_upto_if 181 with fail
    go_cut [] (fun wx => wx.cell? ⟨v1.heap.size, 0, none⟩ = some (.int .i64 p0) ∧ wx.cell? ⟨v1.heap.size, 1, none⟩ = some (.int .i64 p1) ∧ wx.cell? ⟨v2.heap.size, 0, none⟩ = some (.int .i64 r0) ∧ wx.cell? ⟨v2.heap.size, 1, none⟩ = some (.int .i64 r1) ∧ v1.heap.size < wx.heap.size ∧ v2.heap.size < wx.heap.size ∧ Below w.heap.size w wx)
    case first =>
      as_aux_lemma =>
        clear AL HM hm KA9
        by_cases e2 : n % 2 = 0
        ·
          have te : (((n : Int) % 2) == 0) = true := by simp; omega
          have te' : (((n : Int).tmod 2) == 0) = true := by rw [Int.tmod_eq_emod_of_nonneg (by omega)]; exact te
          have B8 := KA8.out e2
          clear KA8
          go_wp2_with fail
          with_reducible refine (B8 _).mono ?_
          rintro e v8 ⟨rfl, hb8⟩
          have zz8 := hb8.size
          try simp [ext_size] at zz8
          have cc8_0 : v8.cell? ⟨v1.heap.size, 0, none⟩ = some (.int .i64 p0) := (hb8.cell (p := ⟨v1.heap.size, 0, none⟩) (by first | omega | (simp [ext_size]; try omega))).trans (by (simp (maxDischargeDepth := 8) [go_sem, World.cell?_alloc_past, ltk2, ltk3, ltk4, ltk5, ltk6, ltk7, ltk8, ltk9, *]))
          have cc8_1 : v8.cell? ⟨v1.heap.size, 1, none⟩ = some (.int .i64 p1) := (hb8.cell (p := ⟨v1.heap.size, 1, none⟩) (by first | omega | (simp [ext_size]; try omega))).trans (by (simp (maxDischargeDepth := 8) [go_sem, World.cell?_alloc_past, ltk2, ltk3, ltk4, ltk5, ltk6, ltk7, ltk8, ltk9, *]))
          have cc8_2 : v8.cell? ⟨v2.heap.size, 0, none⟩ = some (.int .i64 r0) := (hb8.cell (p := ⟨v2.heap.size, 0, none⟩) (by first | omega | (simp [ext_size]; try omega))).trans (by (simp (maxDischargeDepth := 8) [go_sem, World.cell?_alloc_past, ltk2, ltk3, ltk4, ltk5, ltk6, ltk7, ltk8, ltk9, *]))
          have cc8_3 : v8.cell? ⟨v2.heap.size, 1, none⟩ = some (.int .i64 r1) := (hb8.cell (p := ⟨v2.heap.size, 1, none⟩) (by first | omega | (simp [ext_size]; try omega))).trans (by (simp (maxDischargeDepth := 8) [go_sem, World.cell?_alloc_past, ltk2, ltk3, ltk4, ltk5, ltk6, ltk7, ltk8, ltk9, *]))
          have zl8_0 : v1.heap.size < v8.heap.size := by omega
          have zl8_1 : v2.heap.size < v8.heap.size := by omega
          have hB8 : Below w.heap.size w v8 := Below.trans (by (repeat (first | with_reducible exact jB | (with_reducible refine bext ?_ _ _) | (with_reducible refine below_drewN ?_ _) | (with_reducible refine Below.drew ?_) | (with_reducible refine bal ?_ _) | (with_reducible refine bset ?_ (by first | omega | (simp <;> omega)) _)))) (hb8.mono (by first | omega | (simp [ext_size]; try omega)))
          have zw8 := hB8.size
          clear hb8
          go_wp2_with fail
          go_region_held3 (fun w' => w'.cell? ⟨v1.heap.size, 0, none⟩ = some (.int .i64 p0) ∧ w'.cell? ⟨v1.heap.size, 1, none⟩ = some (.int .i64 p1) ∧ w'.cell? ⟨v2.heap.size, 0, none⟩ = some (.int .i64 r0) ∧ w'.cell? ⟨v2.heap.size, 1, none⟩ = some (.int .i64 r1) ∧ w'.cell? ⟨v8.heap.size, 0, none⟩ = some (.int .i64 (-p1)) ∧ w'.cell? ⟨v8.heap.size, 1, none⟩ = some (.int .i64 (-p0))) (simp (maxDischargeDepth := 8) [go_sem, World.cell?_alloc_past, ltk2, ltk3, ltk4, ltk5, ltk6, ltk7, ltk8, ltk9, *])
            ((go_at_call 29; with_reducible refine (N2 _).mono ?_; rintro e w9 ⟨rfl, hb9⟩; obtain ⟨l9, d9, rfl⟩ := toExt hb9; clear hb9))
          all_goals go_wp2_with fail
          all_goals go_meet
          all_goals refine ⟨by (simp (maxDischargeDepth := 8) [go_sem, World.cell?_alloc_past, ltk2, ltk3, ltk4, ltk5, ltk6, ltk7, ltk8, ltk9, *]), by (simp (maxDischargeDepth := 8) [go_sem, World.cell?_alloc_past, ltk2, ltk3, ltk4, ltk5, ltk6, ltk7, ltk8, ltk9, *]), by (simp (maxDischargeDepth := 8) [go_sem, World.cell?_alloc_past, ltk2, ltk3, ltk4, ltk5, ltk6, ltk7, ltk8, ltk9, *]), by (simp (maxDischargeDepth := 8) [go_sem, World.cell?_alloc_past, ltk2, ltk3, ltk4, ltk5, ltk6, ltk7, ltk8, ltk9, *]), by first | omega | (simp [ext_size]; try omega), by first | omega | (simp [ext_size]; try omega), by (repeat (first | with_reducible exact hB8 | (with_reducible refine bext ?_ _ _) | (with_reducible refine below_drewN ?_ _) | (with_reducible refine Below.drew ?_) | (with_reducible refine bal ?_ _) | (with_reducible refine bset ?_ (by first | omega | (simp <;> omega)) _)))⟩
        ·
          have te : (((n : Int) % 2) == 0) = false := by simp; omega
          have te' : (((n : Int).tmod 2) == 0) = false := by rw [Int.tmod_eq_emod_of_nonneg (by omega)]; exact te
          go_wp2_with fail
          all_goals go_meet
          all_goals refine ⟨by (simp (maxDischargeDepth := 8) [go_sem, World.cell?_alloc_past, ltk2, ltk3, ltk4, ltk5, ltk6, ltk7, ltk8, ltk9, *]), by (simp (maxDischargeDepth := 8) [go_sem, World.cell?_alloc_past, ltk2, ltk3, ltk4, ltk5, ltk6, ltk7, ltk8, ltk9, *]), by (simp (maxDischargeDepth := 8) [go_sem, World.cell?_alloc_past, ltk2, ltk3, ltk4, ltk5, ltk6, ltk7, ltk8, ltk9, *]), by (simp (maxDischargeDepth := 8) [go_sem, World.cell?_alloc_past, ltk2, ltk3, ltk4, ltk5, ltk6, ltk7, ltk8, ltk9, *]), by first | omega | (simp [ext_size]; try omega), by first | omega | (simp [ext_size]; try omega), by (repeat (first | with_reducible exact jB | (with_reducible refine bext ?_ _ _) | (with_reducible refine below_drewN ?_ _) | (with_reducible refine Below.drew ?_) | (with_reducible refine bal ?_ _) | (with_reducible refine bset ?_ (by first | omega | (simp <;> omega)) _)))⟩
    case rest =>
      clear N2 KA8 j1 j2 j3 j4 jy jz jw jB
      obtain ⟨j1, j2, j3, j4, jy, jz, jB⟩ := hcut
      have jw := jB.size
      go_upto_if 201 with fail
      go_cut [] (fun wx => wx.cell? ⟨v1.heap.size, 0, none⟩ = some (.int .i64 p0) ∧ wx.cell? ⟨v1.heap.size, 1, none⟩ = some (.int .i64 p1) ∧ wx.cell? ⟨v2.heap.size, 0, none⟩ = some (.int .i64 r0) ∧ wx.cell? ⟨v2.heap.size, 1, none⟩ = some (.int .i64 r1) ∧ v1.heap.size < wx.heap.size ∧ v2.heap.size < wx.heap.size ∧ Below w.heap.size w wx)
      case first =>
        as_aux_lemma =>
          clear AL HM hm
          by_cases e4 : n % 4 = 0
          ·
            have te : (((n : Int) % 4) == 0) = true := by simp; omega
            have te' : (((n : Int).tmod 4) == 0) = true := by rw [Int.tmod_eq_emod_of_nonneg (by omega)]; exact te
            have B9 := KA9.out e4
            clear KA9
            go_wp2_with fail
            with_reducible refine (B9 _).mono ?_
            rintro e v9 ⟨rfl, hb9⟩
            have zz9 := hb9.size
            try simp [ext_size] at zz9
            have cc9_0 : v9.cell? ⟨v1.heap.size, 0, none⟩ = some (.int .i64 p0) := (hb9.cell (p := ⟨v1.heap.size, 0, none⟩) (by first | omega | (simp [ext_size]; try omega))).trans (by (simp (maxDischargeDepth := 8) [go_sem, World.cell?_alloc_past, ltk2, ltk3, ltk4, ltk5, ltk6, ltk7, ltk8, ltk9, *]))
            have cc9_1 : v9.cell? ⟨v1.heap.size, 1, none⟩ = some (.int .i64 p1) := (hb9.cell (p := ⟨v1.heap.size, 1, none⟩) (by first | omega | (simp [ext_size]; try omega))).trans (by (simp (maxDischargeDepth := 8) [go_sem, World.cell?_alloc_past, ltk2, ltk3, ltk4, ltk5, ltk6, ltk7, ltk8, ltk9, *]))
            have cc9_2 : v9.cell? ⟨v2.heap.size, 0, none⟩ = some (.int .i64 r0) := (hb9.cell (p := ⟨v2.heap.size, 0, none⟩) (by first | omega | (simp [ext_size]; try omega))).trans (by (simp (maxDischargeDepth := 8) [go_sem, World.cell?_alloc_past, ltk2, ltk3, ltk4, ltk5, ltk6, ltk7, ltk8, ltk9, *]))
            have cc9_3 : v9.cell? ⟨v2.heap.size, 1, none⟩ = some (.int .i64 r1) := (hb9.cell (p := ⟨v2.heap.size, 1, none⟩) (by first | omega | (simp [ext_size]; try omega))).trans (by (simp (maxDischargeDepth := 8) [go_sem, World.cell?_alloc_past, ltk2, ltk3, ltk4, ltk5, ltk6, ltk7, ltk8, ltk9, *]))
            have zl9_0 : v1.heap.size < v9.heap.size := by omega
            have zl9_1 : v2.heap.size < v9.heap.size := by omega
            have hB9 : Below w.heap.size w v9 := Below.trans (by (repeat (first | with_reducible exact jB | (with_reducible refine bext ?_ _ _) | (with_reducible refine below_drewN ?_ _) | (with_reducible refine Below.drew ?_) | (with_reducible refine bal ?_ _) | (with_reducible refine bset ?_ (by first | omega | (simp <;> omega)) _)))) (hb9.mono (by first | omega | (simp [ext_size]; try omega)))
            have zw9 := hB9.size
            clear hb9
            go_wp2_with fail
            all_goals go_meet
            all_goals refine ⟨by (simp (maxDischargeDepth := 8) [go_sem, World.cell?_alloc_past, ltk2, ltk3, ltk4, ltk5, ltk6, ltk7, ltk8, ltk9, *]), by (simp (maxDischargeDepth := 8) [go_sem, World.cell?_alloc_past, ltk2, ltk3, ltk4, ltk5, ltk6, ltk7, ltk8, ltk9, *]), by (simp (maxDischargeDepth := 8) [go_sem, World.cell?_alloc_past, ltk2, ltk3, ltk4, ltk5, ltk6, ltk7, ltk8, ltk9, *]), by (simp (maxDischargeDepth := 8) [go_sem, World.cell?_alloc_past, ltk2, ltk3, ltk4, ltk5, ltk6, ltk7, ltk8, ltk9, *]), by first | omega | (simp [ext_size]; try omega), by first | omega | (simp [ext_size]; try omega), by (repeat (first | with_reducible exact hB9 | (with_reducible refine bext ?_ _ _) | (with_reducible refine below_drewN ?_ _) | (with_reducible refine Below.drew ?_) | (with_reducible refine bal ?_ _) | (with_reducible refine bset ?_ (by first | omega | (simp <;> omega)) _)))⟩
          ·
            have te : (((n : Int) % 4) == 0) = false := by simp; omega
            have te' : (((n : Int).tmod 4) == 0) = false := by rw [Int.tmod_eq_emod_of_nonneg (by omega)]; exact te
            go_wp2_with fail
            all_goals go_meet
            all_goals refine ⟨by (simp (maxDischargeDepth := 8) [go_sem, World.cell?_alloc_past, ltk2, ltk3, ltk4, ltk5, ltk6, ltk7, ltk8, ltk9, *]), by (simp (maxDischargeDepth := 8) [go_sem, World.cell?_alloc_past, ltk2, ltk3, ltk4, ltk5, ltk6, ltk7, ltk8, ltk9, *]), by (simp (maxDischargeDepth := 8) [go_sem, World.cell?_alloc_past, ltk2, ltk3, ltk4, ltk5, ltk6, ltk7, ltk8, ltk9, *]), by (simp (maxDischargeDepth := 8) [go_sem, World.cell?_alloc_past, ltk2, ltk3, ltk4, ltk5, ltk6, ltk7, ltk8, ltk9, *]), by first | omega | (simp [ext_size]; try omega), by first | omega | (simp [ext_size]; try omega), by (repeat (first | with_reducible exact jB | (with_reducible refine bext ?_ _ _) | (with_reducible refine below_drewN ?_ _) | (with_reducible refine Below.drew ?_) | (with_reducible refine bal ?_ _) | (with_reducible refine bset ?_ (by first | omega | (simp <;> omega)) _)))⟩
      case rest =>
        clear KA9 j1 j2 j3 j4 jy jz jw jB
        obtain ⟨j1, j2, j3, j4, jy, jz, jB⟩ := hcut
        have jw := jB.size
        have hm' := HM.out
        have fin := HF.out
        clear HF HM
        have hn0 : (n = 0) = False := by simp; omega
        have W4 : IntKind.i64.wrap (4 * m) = 4 * m := IntWalk.i64_in _ (by omega)
        have bt := tmod_bd (4 * m) n (by omega)
        have W5 : IntKind.i64.wrap ((4 * m).tmod (n : Int)) = (4 * m).tmod (n : Int) := IntWalk.i64_in _ (by omega)
        as_aux_lemma =>
          obtain ⟨t1, t2, t3, t4⟩ := fin
          go_wp2_with fail
          refine wp_region_held_drew (S := (fun w' => (w'.cell? ⟨v1.heap.size, 0, none⟩ = some (.int .i64 p0) ∧ w'.cell? ⟨v1.heap.size, 1, none⟩ = some (.int .i64 p1) ∧ w'.cell? ⟨v2.heap.size, 0, none⟩ = some (.int .i64 r0) ∧ w'.cell? ⟨v2.heap.size, 1, none⟩ = some (.int .i64 r1)) ∧ (v1.heap.size < w'.heap.size ∧ v2.heap.size < w'.heap.size) ∧ Below w.heap.size w w')) (by kernel_rfl) ?_ (fun hHeld => ?_)
          · exact ⟨⟨j1, j2, j3, j4⟩, ⟨jy, jz⟩, Below.drew jB⟩
          refine wpAnyH_take (i := 0) (oi := { dst := some 225, op := Op.fieldAddr 24 (Operand.tmp 5) 0, type := 0, pos := "law.go:127", after := #[], guard := none }) (v := ?_) rfl (by kernel_rfl) (by kernel_rfl) (by kernel_rfl) (fun _ _ _ h => h) (Or.inl ⟨by rfl, ?_⟩) (by assumption) ?_
          rotate_left
          · (intro w hSw; (try dsimp only at hSw); go_simp; (try simp [*]); (try with_reducible rfl))
          try simp only [Act.put, List.setIfInBounds_toArray, List.set_cons_zero, List.set_cons_succ]
          refine wpAnyH_take (i := 1) (oi := { dst := some 226, op := Op.load 2 (Operand.tmp 225), type := 2, pos := "law.go:127", after := #[{ on := 0, ground := Ground.data }], guard := none }) (v := ?_) rfl (by kernel_rfl) (by kernel_rfl) (by kernel_rfl) (fun _ _ _ h => h) (Or.inl ⟨by rfl, ?_⟩) (by assumption) ?_
          rotate_left
          · (intro w hSw; (try dsimp only at hSw); go_simp; (try simp [*]); (try with_reducible rfl))
          try simp only [Act.put, List.setIfInBounds_toArray, List.set_cons_zero, List.set_cons_succ]
          refine wpAnyH_take (i := 2) (oi := { dst := some 227, op := Op.fieldAddr 24 (Operand.tmp 5) 1, type := 0, pos := "law.go:127", after := #[], guard := none }) (v := ?_) rfl (by kernel_rfl) (by kernel_rfl) (by kernel_rfl) (fun _ _ _ h => h) (Or.inl ⟨by rfl, ?_⟩) (by assumption) ?_
          rotate_left
          · (intro w hSw; (try dsimp only at hSw); go_simp; (try simp [*]); (try with_reducible rfl))
          try simp only [Act.put, List.setIfInBounds_toArray, List.set_cons_zero, List.set_cons_succ]
          refine wpAnyH_take (i := 3) (oi := { dst := some 228, op := Op.load 2 (Operand.tmp 227), type := 2, pos := "law.go:127", after := #[{ on := 2, ground := Ground.data }], guard := none }) (v := ?_) rfl (by kernel_rfl) (by kernel_rfl) (by kernel_rfl) (fun _ _ _ h => h) (Or.inl ⟨by rfl, ?_⟩) (by assumption) ?_
          rotate_left
          · (intro w hSw; (try dsimp only at hSw); go_simp; (try simp [*]); (try with_reducible rfl))
          try simp only [Act.put, List.setIfInBounds_toArray, List.set_cons_zero, List.set_cons_succ]
          refine wpAnyH_take (i := 4) (oi := { dst := some 229, op := Op.binOp BinOp.eql 2 (Operand.tmp 226) (Operand.tmp 228) 2, type := 4, pos := "law.go:127", after := #[{ on := 1, ground := Ground.data }, { on := 3, ground := Ground.data }], guard := none }) (v := ?_) rfl (by kernel_rfl) (by kernel_rfl) (by kernel_rfl) (fun _ _ _ h => h) (Or.inl ⟨by rfl, ?_⟩) (by assumption) ?_
          rotate_left
          · (intro w hSw; (try dsimp only at hSw); go_simp; (try simp [*]); (try with_reducible rfl))
          try simp only [Act.put, List.setIfInBounds_toArray, List.set_cons_zero, List.set_cons_succ]
          refine wpAnyH_take (i := 5) (oi := { dst := some 230, op := Op.move (Operand.tmp 229), type := 4, pos := "law.go:127", after := #[{ on := 4, ground := Ground.data }], guard := none }) (v := ?_) rfl (by kernel_rfl) (by kernel_rfl) (by kernel_rfl) (fun _ _ _ h => h) (Or.inl ⟨by rfl, ?_⟩) (by assumption) ?_
          rotate_left
          · (intro w hSw; (try dsimp only at hSw); go_simp; (try simp [*]); (try with_reducible rfl))
          try simp only [Act.put, List.setIfInBounds_toArray, List.set_cons_zero, List.set_cons_succ]
          refine wpAnyH_take (i := 6) (oi := { dst := some 231, op := Op.fieldAddr 24 (Operand.tmp 7) 0, type := 0, pos := "law.go:127", after := #[{ on := 5, ground := Ground.guard }], guard := some (5, true) }) (v := ?_) rfl (by kernel_rfl) (by kernel_rfl) (by kernel_rfl) (fun _ _ _ h => h) (Or.inl ⟨by rfl, ?_⟩) (by assumption) ?_
          rotate_left
          · (intro w hSw; (try dsimp only at hSw); go_simp; (try simp [*]); (try with_reducible rfl))
          try simp only [Act.put, List.setIfInBounds_toArray, List.set_cons_zero, List.set_cons_succ]
          refine wpAnyH_take (i := 7) (oi := { dst := some 232, op := Op.load 2 (Operand.tmp 231), type := 2, pos := "law.go:127", after := #[{ on := 6, ground := Ground.data }, { on := 5, ground := Ground.guard }], guard := some (5, true) }) (v := ?_) rfl (by kernel_rfl) (by kernel_rfl) (by kernel_rfl) (fun _ _ _ h => h) (Or.inl ⟨by rfl, ?_⟩) (by assumption) ?_
          rotate_left
          · (intro w hSw; (try dsimp only at hSw); go_simp; (try simp [*]); (try with_reducible rfl))
          try simp only [Act.put, List.setIfInBounds_toArray, List.set_cons_zero, List.set_cons_succ]
          refine wpAnyH_take (i := 8) (oi := { dst := some 233, op := Op.fieldAddr 24 (Operand.tmp 7) 1, type := 0, pos := "law.go:127", after := #[{ on := 5, ground := Ground.guard }], guard := some (5, true) }) (v := ?_) rfl (by kernel_rfl) (by kernel_rfl) (by kernel_rfl) (fun _ _ _ h => h) (Or.inl ⟨by rfl, ?_⟩) (by assumption) ?_
          rotate_left
          · (intro w hSw; (try dsimp only at hSw); go_simp; (try simp [*]); (try with_reducible rfl))
          try simp only [Act.put, List.setIfInBounds_toArray, List.set_cons_zero, List.set_cons_succ]
          refine wpAnyH_take (i := 9) (oi := { dst := some 234, op := Op.load 2 (Operand.tmp 233), type := 2, pos := "law.go:127", after := #[{ on := 8, ground := Ground.data }, { on := 5, ground := Ground.guard }], guard := some (5, true) }) (v := ?_) rfl (by kernel_rfl) (by kernel_rfl) (by kernel_rfl) (fun _ _ _ h => h) (Or.inl ⟨by rfl, ?_⟩) (by assumption) ?_
          rotate_left
          · (intro w hSw; (try dsimp only at hSw); go_simp; (try simp [*]); (try with_reducible rfl))
          try simp only [Act.put, List.setIfInBounds_toArray, List.set_cons_zero, List.set_cons_succ]
          refine wpAnyH_take (i := 10) (oi := { dst := some 235, op := Op.binOp BinOp.eql 2 (Operand.tmp 232) (Operand.tmp 234) 2, type := 4, pos := "law.go:127", after := #[{ on := 7, ground := Ground.data }, { on := 9, ground := Ground.data }, { on := 5, ground := Ground.guard }], guard := some (5, true) }) (v := ?_) rfl (by kernel_rfl) (by kernel_rfl) (by kernel_rfl) (fun _ _ _ h => h) (Or.inl ⟨by rfl, ?_⟩) (by assumption) ?_
          rotate_left
          · (intro w hSw; (try dsimp only at hSw); go_simp; (try simp [*]); (try with_reducible rfl))
          try simp only [Act.put, List.setIfInBounds_toArray, List.set_cons_zero, List.set_cons_succ]
          refine wpAnyH_take (i := 11) (oi := { dst := some 236, op := Op.pick (Operand.tmp 230) (Operand.tmp 235) (Operand.const (Value.bool false)), type := 4, pos := "law.go:127", after := #[{ on := 5, ground := Ground.data }, { on := 10, ground := Ground.data }], guard := none }) (v := ?_) rfl (by kernel_rfl) (by kernel_rfl) (by kernel_rfl) (fun _ _ _ h => h) (Or.inl ⟨by rfl, ?_⟩) (by assumption) ?_
          rotate_left
          · (intro w hSw; (try dsimp only at hSw); go_simp; (try simp [*]); (try with_reducible rfl))
          try simp only [Act.put, List.setIfInBounds_toArray, List.set_cons_zero, List.set_cons_succ]
          refine wpAnyH_take (i := 12) (oi := { dst := some 237, op := Op.move (Operand.tmp 23), type := 4, pos := "law.go:127", after := #[], guard := none }) (v := ?_) rfl (by kernel_rfl) (by kernel_rfl) (by kernel_rfl) (fun _ _ _ h => h) (Or.inl ⟨by rfl, ?_⟩) (by assumption) ?_
          rotate_left
          · (intro w hSw; (try dsimp only at hSw); go_simp; (try simp [*]); (try with_reducible rfl))
          try simp only [Act.put, List.setIfInBounds_toArray, List.set_cons_zero, List.set_cons_succ]
          refine wpAnyH_take (i := 13) (oi := { dst := some 238, op := Op.move (Operand.tmp 237), type := 4, pos := "law.go:127", after := #[{ on := 12, ground := Ground.data }, { on := 5, ground := Ground.chain }], guard := none }) (v := ?_) rfl (by kernel_rfl) (by kernel_rfl) (by kernel_rfl) (fun _ _ _ h => h) (Or.inl ⟨by rfl, ?_⟩) (by assumption) ?_
          rotate_left
          · (intro w hSw; (try dsimp only at hSw); go_simp; (try simp [*]); (try with_reducible rfl))
          try simp only [Act.put, List.setIfInBounds_toArray, List.set_cons_zero, List.set_cons_succ]
          refine wpAnyH_take (i := 14) (oi := { dst := some 239, op := Op.move (Operand.tmp 0), type := 3, pos := "law.go:127", after := #[{ on := 13, ground := Ground.guard }], guard := some (13, true) }) (v := ?_) rfl (by kernel_rfl) (by kernel_rfl) (by kernel_rfl) (fun _ _ _ h => h) (Or.inl ⟨by rfl, ?_⟩) (by assumption) ?_
          rotate_left
          · (intro w hSw; (try dsimp only at hSw); go_simp; (try simp [*]); (try with_reducible rfl))
          try simp only [Act.put, List.setIfInBounds_toArray, List.set_cons_zero, List.set_cons_succ]
          refine wpAnyH_take (i := 15) (oi := { dst := some 240, op := Op.move (Operand.tmp 1), type := 3, pos := "law.go:127", after := #[{ on := 13, ground := Ground.guard }], guard := some (13, true) }) (v := ?_) rfl (by kernel_rfl) (by kernel_rfl) (by kernel_rfl) (fun _ _ _ h => h) (Or.inl ⟨by rfl, ?_⟩) (by assumption) ?_
          rotate_left
          · (intro w hSw; (try dsimp only at hSw); go_simp; (try simp [*]); (try with_reducible rfl))
          try simp only [Act.put, List.setIfInBounds_toArray, List.set_cons_zero, List.set_cons_succ]
          refine wpAnyH_take (i := 16) (oi := { dst := some 241, op := Op.binOp BinOp.rem 3 (Operand.tmp 239) (Operand.tmp 240) 3, type := 3, pos := "law.go:127", after := #[{ on := 14, ground := Ground.data }, { on := 15, ground := Ground.data }, { on := 13, ground := Ground.guard }], guard := some (13, true) }) (v := ?_) rfl (by kernel_rfl) (by kernel_rfl) (by kernel_rfl) (fun _ _ _ h => h) (Or.inl ⟨by rfl, ?_⟩) (by assumption) ?_
          rotate_left
          · (intro w hSw; (try dsimp only at hSw); go_simp; (try simp [*]); (try with_reducible rfl))
          try simp only [Act.put, List.setIfInBounds_toArray, List.set_cons_zero, List.set_cons_succ]
          refine wpAnyH_take (i := 17) (oi := { dst := some 242, op := Op.binOp BinOp.mul 3 (Operand.const (Value.int IntKind.i64 4)) (Operand.tmp 241) 3, type := 3, pos := "law.go:127", after := #[{ on := 16, ground := Ground.data }, { on := 13, ground := Ground.guard }], guard := some (13, true) }) (v := ?_) rfl (by kernel_rfl) (by kernel_rfl) (by kernel_rfl) (fun _ _ _ h => h) (Or.inl ⟨by rfl, ?_⟩) (by assumption) ?_
          rotate_left
          · (intro w hSw; (try dsimp only at hSw); go_simp; (try simp [*]); (try with_reducible rfl))
          try simp only [Act.put, List.setIfInBounds_toArray, List.set_cons_zero, List.set_cons_succ]
          refine wpAnyH_take (i := 18) (oi := { dst := some 243, op := Op.move (Operand.tmp 1), type := 3, pos := "law.go:127", after := #[{ on := 13, ground := Ground.guard }], guard := some (13, true) }) (v := ?_) rfl (by kernel_rfl) (by kernel_rfl) (by kernel_rfl) (fun _ _ _ h => h) (Or.inl ⟨by rfl, ?_⟩) (by assumption) ?_
          rotate_left
          · (intro w hSw; (try dsimp only at hSw); go_simp; (try simp [*]); (try with_reducible rfl))
          try simp only [Act.put, List.setIfInBounds_toArray, List.set_cons_zero, List.set_cons_succ]
          refine wpAnyH_take (i := 19) (oi := { dst := some 244, op := Op.binOp BinOp.rem 3 (Operand.tmp 242) (Operand.tmp 243) 3, type := 3, pos := "law.go:127", after := #[{ on := 17, ground := Ground.data }, { on := 18, ground := Ground.data }, { on := 13, ground := Ground.guard }], guard := some (13, true) }) (v := ?_) rfl (by kernel_rfl) (by kernel_rfl) (by kernel_rfl) (fun _ _ _ h => h) (Or.inl ⟨by rfl, ?_⟩) (by assumption) ?_
          rotate_left
          · (intro w hSw; (try dsimp only at hSw); go_simp; (try simp [*]); (try with_reducible rfl))
          try simp only [Act.put, List.setIfInBounds_toArray, List.set_cons_zero, List.set_cons_succ]
          refine wpAnyH_take (i := 20) (oi := { dst := some 245, op := Op.binOp BinOp.eql 3 (Operand.tmp 244) (Operand.const (Value.int IntKind.i64 0)) 3, type := 4, pos := "law.go:127", after := #[{ on := 19, ground := Ground.data }, { on := 13, ground := Ground.guard }], guard := some (13, true) }) (v := ?_) rfl (by kernel_rfl) (by kernel_rfl) (by kernel_rfl) (fun _ _ _ h => h) (Or.inl ⟨by rfl, ?_⟩) (by assumption) ?_
          rotate_left
          · (intro w hSw; (try dsimp only at hSw); go_simp; (try simp [*]); (try with_reducible rfl))
          try simp only [Act.put, List.setIfInBounds_toArray, List.set_cons_zero, List.set_cons_succ]
          refine wpAnyH_take (i := 21) (oi := { dst := some 246, op := Op.pick (Operand.tmp 238) (Operand.tmp 245) (Operand.const (Value.bool false)), type := 4, pos := "law.go:127", after := #[{ on := 13, ground := Ground.data }, { on := 20, ground := Ground.data }], guard := none }) (v := ?_) rfl (by kernel_rfl) (by kernel_rfl) (by kernel_rfl) (fun _ _ _ h => h) (Or.inl ⟨by rfl, ?_⟩) (by assumption) ?_
          rotate_left
          · (intro w hSw; (try dsimp only at hSw); go_simp; (try simp [*]); (try with_reducible rfl))
          try simp only [Act.put, List.setIfInBounds_toArray, List.set_cons_zero, List.set_cons_succ]
          refine wpAnyH_take (i := 22) (oi := { dst := some 247, op := Op.binOp BinOp.eql 4 (Operand.tmp 236) (Operand.tmp 246) 4, type := 4, pos := "law.go:127", after := #[{ on := 11, ground := Ground.data }, { on := 21, ground := Ground.data }], guard := none }) (v := ?_) rfl (by kernel_rfl) (by kernel_rfl) (by kernel_rfl) (fun _ _ _ h => h) (Or.inl ⟨by rfl, ?_⟩) (by assumption) ?_
          rotate_left
          · (intro w hSw; (try dsimp only at hSw); go_simp; (try simp [*]); (try with_reducible rfl))
          try simp only [Act.put, List.setIfInBounds_toArray, List.set_cons_zero, List.set_cons_succ]
          refine wpAnyH_take (i := 23) (oi := { dst := some 248, op := Op.move (Operand.tmp 247), type := 4, pos := "law.go:127", after := #[{ on := 22, ground := Ground.data }, { on := 13, ground := Ground.chain }], guard := none }) (v := ?_) rfl (by kernel_rfl) (by kernel_rfl) (by kernel_rfl) (fun _ _ _ h => h) (Or.inl ⟨by rfl, ?_⟩) (by assumption) ?_
          rotate_left
          · (intro w hSw; (try dsimp only at hSw); go_simp; (try simp [*]); (try with_reducible rfl))
          try simp only [Act.put, List.setIfInBounds_toArray, List.set_cons_zero, List.set_cons_succ]
          refine wpAnyH_take (i := 24) (oi := { dst := some 249, op := Op.move (Operand.tmp 23), type := 4, pos := "law.go:127", after := #[{ on := 23, ground := Ground.guard }], guard := some (23, true) }) (v := ?_) rfl (by kernel_rfl) (by kernel_rfl) (by kernel_rfl) (fun _ _ _ h => h) (Or.inl ⟨by rfl, ?_⟩) (by assumption) ?_
          rotate_left
          · (intro w hSw; (try dsimp only at hSw); go_simp; (try simp [*]); (try with_reducible rfl))
          try simp only [Act.put, List.setIfInBounds_toArray, List.set_cons_zero, List.set_cons_succ]
          refine wpAnyH_take (i := 25) (oi := { dst := some 250, op := Op.move (Operand.tmp 249), type := 4, pos := "law.go:127", after := #[{ on := 24, ground := Ground.data }, { on := 23, ground := Ground.chain }, { on := 23, ground := Ground.guard }], guard := some (23, true) }) (v := ?_) rfl (by kernel_rfl) (by kernel_rfl) (by kernel_rfl) (fun _ _ _ h => h) (Or.inl ⟨by rfl, ?_⟩) (by assumption) ?_
          rotate_left
          · (intro w hSw; (try dsimp only at hSw); go_simp; (try simp [*]); (try with_reducible rfl))
          try simp only [Act.put, List.setIfInBounds_toArray, List.set_cons_zero, List.set_cons_succ]
          refine wpAnyH_take (i := 26) (oi := { dst := some 251, op := Op.fieldAddr 24 (Operand.tmp 5) 0, type := 0, pos := "law.go:127", after := #[{ on := 25, ground := Ground.guard }], guard := some (25, false) }) (v := undef) rfl (by kernel_rfl) (by kernel_rfl) (by kernel_rfl) (fun _ _ _ h => h) (Or.inr ⟨by rfl, rfl⟩) (by assumption) ?_
          try simp only [Act.put, List.setIfInBounds_toArray, List.set_cons_zero, List.set_cons_succ]
          refine wpAnyH_take (i := 27) (oi := { dst := some 252, op := Op.load 2 (Operand.tmp 251), type := 2, pos := "law.go:127", after := #[{ on := 26, ground := Ground.data }, { on := 25, ground := Ground.guard }], guard := some (25, false) }) (v := undef) rfl (by kernel_rfl) (by kernel_rfl) (by kernel_rfl) (fun _ _ _ h => h) (Or.inr ⟨by rfl, rfl⟩) (by assumption) ?_
          try simp only [Act.put, List.setIfInBounds_toArray, List.set_cons_zero, List.set_cons_succ]
          refine wpAnyH_take (i := 28) (oi := { dst := some 253, op := Op.fieldAddr 24 (Operand.tmp 5) 1, type := 0, pos := "law.go:127", after := #[{ on := 25, ground := Ground.guard }], guard := some (25, false) }) (v := undef) rfl (by kernel_rfl) (by kernel_rfl) (by kernel_rfl) (fun _ _ _ h => h) (Or.inr ⟨by rfl, rfl⟩) (by assumption) ?_
          try simp only [Act.put, List.setIfInBounds_toArray, List.set_cons_zero, List.set_cons_succ]
          refine wpAnyH_take (i := 29) (oi := { dst := some 254, op := Op.load 2 (Operand.tmp 253), type := 2, pos := "law.go:127", after := #[{ on := 28, ground := Ground.data }, { on := 25, ground := Ground.guard }], guard := some (25, false) }) (v := undef) rfl (by kernel_rfl) (by kernel_rfl) (by kernel_rfl) (fun _ _ _ h => h) (Or.inr ⟨by rfl, rfl⟩) (by assumption) ?_
          try simp only [Act.put, List.setIfInBounds_toArray, List.set_cons_zero, List.set_cons_succ]
          refine wpAnyH_take (i := 30) (oi := { dst := some 255, op := Op.binOp BinOp.lss 2 (Operand.tmp 252) (Operand.tmp 254) 2, type := 4, pos := "law.go:127", after := #[{ on := 27, ground := Ground.data }, { on := 29, ground := Ground.data }, { on := 25, ground := Ground.guard }], guard := some (25, false) }) (v := undef) rfl (by kernel_rfl) (by kernel_rfl) (by kernel_rfl) (fun _ _ _ h => h) (Or.inr ⟨by rfl, rfl⟩) (by assumption) ?_
          try simp only [Act.put, List.setIfInBounds_toArray, List.set_cons_zero, List.set_cons_succ]
          refine wpAnyH_take (i := 31) (oi := { dst := some 256, op := Op.move (Operand.tmp 255), type := 4, pos := "law.go:127", after := #[{ on := 30, ground := Ground.data }, { on := 25, ground := Ground.chain }, { on := 25, ground := Ground.guard }], guard := some (25, false) }) (v := undef) rfl (by kernel_rfl) (by kernel_rfl) (by kernel_rfl) (fun _ _ _ h => h) (Or.inr ⟨by rfl, rfl⟩) (by assumption) ?_
          try simp only [Act.put, List.setIfInBounds_toArray, List.set_cons_zero, List.set_cons_succ]
          refine wpAnyH_take (i := 32) (oi := { dst := some 257, op := Op.fieldAddr 24 (Operand.tmp 7) 0, type := 0, pos := "law.go:127", after := #[{ on := 31, ground := Ground.guard }], guard := some (31, true) }) (v := undef) rfl (by kernel_rfl) (by kernel_rfl) (by kernel_rfl) (fun _ _ _ h => h) (Or.inr ⟨by rfl, rfl⟩) (by assumption) ?_
          try simp only [Act.put, List.setIfInBounds_toArray, List.set_cons_zero, List.set_cons_succ]
          refine wpAnyH_take (i := 33) (oi := { dst := some 258, op := Op.load 2 (Operand.tmp 257), type := 2, pos := "law.go:127", after := #[{ on := 32, ground := Ground.data }, { on := 31, ground := Ground.guard }], guard := some (31, true) }) (v := undef) rfl (by kernel_rfl) (by kernel_rfl) (by kernel_rfl) (fun _ _ _ h => h) (Or.inr ⟨by rfl, rfl⟩) (by assumption) ?_
          try simp only [Act.put, List.setIfInBounds_toArray, List.set_cons_zero, List.set_cons_succ]
          refine wpAnyH_take (i := 34) (oi := { dst := some 259, op := Op.fieldAddr 24 (Operand.tmp 7) 1, type := 0, pos := "law.go:127", after := #[{ on := 31, ground := Ground.guard }], guard := some (31, true) }) (v := undef) rfl (by kernel_rfl) (by kernel_rfl) (by kernel_rfl) (fun _ _ _ h => h) (Or.inr ⟨by rfl, rfl⟩) (by assumption) ?_
          try simp only [Act.put, List.setIfInBounds_toArray, List.set_cons_zero, List.set_cons_succ]
          refine wpAnyH_take (i := 35) (oi := { dst := some 260, op := Op.load 2 (Operand.tmp 259), type := 2, pos := "law.go:127", after := #[{ on := 34, ground := Ground.data }, { on := 31, ground := Ground.guard }], guard := some (31, true) }) (v := undef) rfl (by kernel_rfl) (by kernel_rfl) (by kernel_rfl) (fun _ _ _ h => h) (Or.inr ⟨by rfl, rfl⟩) (by assumption) ?_
          try simp only [Act.put, List.setIfInBounds_toArray, List.set_cons_zero, List.set_cons_succ]
          refine wpAnyH_take (i := 36) (oi := { dst := some 261, op := Op.binOp BinOp.lss 2 (Operand.tmp 258) (Operand.tmp 260) 2, type := 4, pos := "law.go:127", after := #[{ on := 33, ground := Ground.data }, { on := 35, ground := Ground.data }, { on := 31, ground := Ground.guard }], guard := some (31, true) }) (v := undef) rfl (by kernel_rfl) (by kernel_rfl) (by kernel_rfl) (fun _ _ _ h => h) (Or.inr ⟨by rfl, rfl⟩) (by assumption) ?_
          try simp only [Act.put, List.setIfInBounds_toArray, List.set_cons_zero, List.set_cons_succ]
          refine wpAnyH_take (i := 37) (oi := { dst := some 262, op := Op.pick (Operand.tmp 256) (Operand.tmp 261) (Operand.const (Value.bool false)), type := 4, pos := "law.go:127", after := #[{ on := 31, ground := Ground.data }, { on := 36, ground := Ground.data }, { on := 25, ground := Ground.guard }], guard := some (25, false) }) (v := undef) rfl (by kernel_rfl) (by kernel_rfl) (by kernel_rfl) (fun _ _ _ h => h) (Or.inr ⟨by rfl, rfl⟩) (by assumption) ?_
          try simp only [Act.put, List.setIfInBounds_toArray, List.set_cons_zero, List.set_cons_succ]
          refine wpAnyH_take (i := 38) (oi := { dst := some 263, op := Op.pick (Operand.tmp 250) (Operand.const (Value.bool true)) (Operand.tmp 262), type := 4, pos := "law.go:127", after := #[{ on := 25, ground := Ground.data }, { on := 37, ground := Ground.data }, { on := 23, ground := Ground.guard }], guard := some (23, true) }) (v := ?_) rfl (by kernel_rfl) (by kernel_rfl) (by kernel_rfl) (fun _ _ _ h => h) (Or.inl ⟨by rfl, ?_⟩) (by assumption) ?_
          rotate_left
          · (intro w hSw; (try dsimp only at hSw); go_simp; (try simp [*]); (try with_reducible rfl))
          try simp only [Act.put, List.setIfInBounds_toArray, List.set_cons_zero, List.set_cons_succ]
          refine wpAnyH_take (i := 39) (oi := { dst := some 264, op := Op.pick (Operand.tmp 248) (Operand.tmp 263) (Operand.const (Value.bool false)), type := 4, pos := "law.go:127", after := #[{ on := 23, ground := Ground.data }, { on := 38, ground := Ground.data }], guard := none }) (v := ?_) rfl (by kernel_rfl) (by kernel_rfl) (by kernel_rfl) (fun _ _ _ h => h) (Or.inl ⟨by rfl, ?_⟩) (by assumption) ?_
          rotate_left
          · (intro w hSw; (try dsimp only at hSw); go_simp; (try simp [*]); (try with_reducible rfl))
          try simp only [Act.put, List.setIfInBounds_toArray, List.set_cons_zero, List.set_cons_succ]
          refine wpAnyH_take (i := 40) (oi := { dst := some 265, op := Op.move (Operand.tmp 264), type := 4, pos := "law.go:127", after := #[{ on := 39, ground := Ground.data }, { on := 31, ground := Ground.chain }], guard := none }) (v := ?_) rfl (by kernel_rfl) (by kernel_rfl) (by kernel_rfl) (fun _ _ _ h => h) (Or.inl ⟨by rfl, ?_⟩) (by assumption) ?_
          rotate_left
          · (intro w hSw; (try dsimp only at hSw); go_simp; (try simp [*]); (try with_reducible rfl))
          try simp only [Act.put, List.setIfInBounds_toArray, List.set_cons_zero, List.set_cons_succ]
          refine wpAnyH_ready (rs := [41]) (by kernel_rfl) (by simp) ?_
          refine AllReadyH.cons (o := { dst := some 266, op := Op.call { callee := Callee.value (Operand.func 20), args := #[], argTypes := #[] }, type := 4, pos := "law.go:127", after := #[{ on := 40, ground := Ground.chain }, { on := 40, ground := Ground.guard }], guard := some (40, true) }) rfl (fun K hK => ?_) AllReadyH.nil
          go_simp
          with_reducible refine (AL _).mono ?_
          rintro e w9 ⟨rfl, hb9⟩
          obtain ⟨l9, d9, rfl⟩ := toExt hb9
          clear hb9
          (try go_wp2_with fail)
          refine hK.out _ _ ?_ (fun hHeld2 => ?_)
          · (obtain ⟨⟨ua1, ua2, ua3, ua4⟩, ⟨uay, uaz⟩, uaB⟩ := hHeld; exact ⟨⟨(ext_cell _ _ _ _ _ uay).trans ua1, (ext_cell _ _ _ _ _ uay).trans ua2, (ext_cell _ _ _ _ _ uaz).trans ua3, (ext_cell _ _ _ _ _ uaz).trans ua4⟩, ⟨ext_lt _ _ _ _ uay, ext_lt _ _ _ _ uaz⟩, bext uaB _ _⟩)
          clear hK K hHeld
          have hHeld := hHeld2
          clear hHeld2
          try simp only [Act.put, List.setIfInBounds_toArray, List.set_cons_zero, List.set_cons_succ]
          refine wpAnyH_take (i := 42) (oi := { dst := some 267, op := Op.pick (Operand.tmp 265) (Operand.tmp 266) (Operand.const (Value.bool false)), type := 4, pos := "law.go:127", after := #[{ on := 40, ground := Ground.data }, { on := 41, ground := Ground.data }], guard := none }) (v := ?_) rfl (by kernel_rfl) (by kernel_rfl) (by kernel_rfl) (fun _ _ _ h => h) (Or.inl ⟨by rfl, ?_⟩) (by assumption) ?_
          rotate_left
          · (intro w hSw; (try dsimp only at hSw); go_simp; (try simp [*]); (try with_reducible rfl))
          try simp only [Act.put, List.setIfInBounds_toArray, List.set_cons_zero, List.set_cons_succ]
          refine wpAnyH_take (i := 43) (oi := { dst := some 4, op := Op.assign (Operand.tmp 267), type := 4, pos := "law.go:127", after := #[{ on := 42, ground := Ground.data }, { on := 41, ground := Ground.chain }, { on := 0, ground := Ground.phase }, { on := 1, ground := Ground.phase }, { on := 2, ground := Ground.phase }, { on := 3, ground := Ground.phase }, { on := 4, ground := Ground.phase }, { on := 5, ground := Ground.phase }, { on := 6, ground := Ground.phase }, { on := 7, ground := Ground.phase }, { on := 8, ground := Ground.phase }, { on := 9, ground := Ground.phase }, { on := 10, ground := Ground.phase }, { on := 11, ground := Ground.phase }, { on := 12, ground := Ground.phase }, { on := 13, ground := Ground.phase }, { on := 14, ground := Ground.phase }, { on := 15, ground := Ground.phase }, { on := 16, ground := Ground.phase }, { on := 17, ground := Ground.phase }, { on := 18, ground := Ground.phase }, { on := 19, ground := Ground.phase }, { on := 20, ground := Ground.phase }, { on := 21, ground := Ground.phase }, { on := 22, ground := Ground.phase }, { on := 23, ground := Ground.phase }, { on := 24, ground := Ground.phase }, { on := 25, ground := Ground.phase }, { on := 26, ground := Ground.phase }, { on := 27, ground := Ground.phase }, { on := 28, ground := Ground.phase }, { on := 29, ground := Ground.phase }, { on := 30, ground := Ground.phase }, { on := 31, ground := Ground.phase }, { on := 32, ground := Ground.phase }, { on := 33, ground := Ground.phase }, { on := 34, ground := Ground.phase }, { on := 35, ground := Ground.phase }, { on := 36, ground := Ground.phase }, { on := 37, ground := Ground.phase }, { on := 38, ground := Ground.phase }, { on := 39, ground := Ground.phase }, { on := 40, ground := Ground.phase }, { on := 41, ground := Ground.phase }, { on := 42, ground := Ground.phase }], guard := none }) (v := ?_) rfl (by kernel_rfl) (by kernel_rfl) (by kernel_rfl) (fun _ _ _ h => h) (Or.inl ⟨by rfl, ?_⟩) (by assumption) ?_
          rotate_left
          · (intro w hSw; (try dsimp only at hSw); go_simp; (try simp [*]); (try with_reducible rfl))
          try simp only [Act.put, List.setIfInBounds_toArray, List.set_cons_zero, List.set_cons_succ]
          refine wpAnyH_done (by kernel_rfl) ?_ _
          go_wp2
          go_ret
          exact ⟨rfl, hHeld.2.2⟩
end Go.Proofs.Ytilcgbloangcmaa
