/-
  Package track: how far two sources are apart.
-/
import Derived.Test.YtmjbeplcabomdaaPi
namespace Go.Proofs.Ytmjbeplcabomdaa
open Go.RowKit
set_option linter.unusedVariables false
set_option linter.unusedSimpArgs false
def acL2 (d e : Int) : Int := smL (cL d) (cH d) (cL e) (cH e)
def acH2 (d e : Int) : Int := smH (cL d) (cH d) (cL e) (cH e)

set_option maxRecDepth 100000 in
set_option maxHeartbeats 1600000 in
theorem track_Apart_bad (s t : ByteArray) (ra da rb db : Int) (h1 : srE s ra da = 0) (h2 : srE t rb db = 8) (w : World) :
    Calls Try.prog 15 #[.agg #[.string s, .int .i64 ra, .int .i64 da], .agg #[.string t, .int .i64 rb, .int .i64 db]] w fun r w' => r = .returned (.tuple #[.agg #[.int .i64 0, .int .i64 0], .int .i64 8]) ∧ Below w.heap.size w w' := by
  have A1 := fun w => track_Check s ra da w
  rw [h1] at A1
  have A2 := fun w => track_Check t rb db w
  rw [h2] at A2
  clear h1 h2
  have dAl := dAl; have dSt := dSt; have xC := ext_cell; have xF := ext_frozen; have xS := ext_set; have xN := ext_drewN; have xD := ext_drew; have xL := ext_lt; have xE := ext_ne; have xG := ext_nr; have xX := ext_ext; have xL1 := ext_lt1; have xL2 := ext_lt2; have xL3 := ext_lt3; have xM0 := ext_le0; have xM1 := ext_le1; have xM2 := ext_le2
  go_enter Try.func15, Try.ntmps15
  go_wp2_with fail
  refine wp_loop_rounds 3 ?_
  rw [rounds_succ]
  go_wp2_with fail
  with_reducible refine (A1 _).mono ?_
  rintro e v1 ⟨rfl, hb1⟩
  have zz1 := hb1.size
  try simp [ext_size] at zz1
  have cc1_0 : v1.cell? ⟨w.heap.size + 1 + 1, 0, none⟩ = some (.int .i64 0) := (hb1.cell (p := ⟨w.heap.size + 1 + 1, 0, none⟩) (by first | omega | (simp [ext_size]; try omega))).trans (by (simp (maxDischargeDepth := 8) [go_sem, World.cell?_alloc_past, ltk2, ltk3, ltk4, ltk5, ltk6, ltk7, ltk8, ltk9, *]))
  have cc1_1 : v1.cell? ⟨w.heap.size + 1 + 1, 1, none⟩ = some (.int .i64 0) := (hb1.cell (p := ⟨w.heap.size + 1 + 1, 1, none⟩) (by first | omega | (simp [ext_size]; try omega))).trans (by (simp (maxDischargeDepth := 8) [go_sem, World.cell?_alloc_past, ltk2, ltk3, ltk4, ltk5, ltk6, ltk7, ltk8, ltk9, *]))
  have cc1_2 : v1.cell? ⟨w.heap.size + 1 + 1 + 1, 0, none⟩ = some (.string s) := (hb1.cell (p := ⟨w.heap.size + 1 + 1 + 1, 0, none⟩) (by first | omega | (simp [ext_size]; try omega))).trans (by (simp (maxDischargeDepth := 8) [go_sem, World.cell?_alloc_past, ltk2, ltk3, ltk4, ltk5, ltk6, ltk7, ltk8, ltk9, *]))
  have cc1_3 : v1.cell? ⟨w.heap.size + 1 + 1 + 1, 1, none⟩ = some (.int .i64 ra) := (hb1.cell (p := ⟨w.heap.size + 1 + 1 + 1, 1, none⟩) (by first | omega | (simp [ext_size]; try omega))).trans (by (simp (maxDischargeDepth := 8) [go_sem, World.cell?_alloc_past, ltk2, ltk3, ltk4, ltk5, ltk6, ltk7, ltk8, ltk9, *]))
  have cc1_4 : v1.cell? ⟨w.heap.size + 1 + 1 + 1, 2, none⟩ = some (.int .i64 da) := (hb1.cell (p := ⟨w.heap.size + 1 + 1 + 1, 2, none⟩) (by first | omega | (simp [ext_size]; try omega))).trans (by (simp (maxDischargeDepth := 8) [go_sem, World.cell?_alloc_past, ltk2, ltk3, ltk4, ltk5, ltk6, ltk7, ltk8, ltk9, *]))
  have cc1_5 : v1.cell? ⟨w.heap.size + 1 + 1 + 1, 3, none⟩ = some (.string t) := (hb1.cell (p := ⟨w.heap.size + 1 + 1 + 1, 3, none⟩) (by first | omega | (simp [ext_size]; try omega))).trans (by (simp (maxDischargeDepth := 8) [go_sem, World.cell?_alloc_past, ltk2, ltk3, ltk4, ltk5, ltk6, ltk7, ltk8, ltk9, *]))
  have cc1_6 : v1.cell? ⟨w.heap.size + 1 + 1 + 1, 4, none⟩ = some (.int .i64 rb) := (hb1.cell (p := ⟨w.heap.size + 1 + 1 + 1, 4, none⟩) (by first | omega | (simp [ext_size]; try omega))).trans (by (simp (maxDischargeDepth := 8) [go_sem, World.cell?_alloc_past, ltk2, ltk3, ltk4, ltk5, ltk6, ltk7, ltk8, ltk9, *]))
  have cc1_7 : v1.cell? ⟨w.heap.size + 1 + 1 + 1, 5, none⟩ = some (.int .i64 db) := (hb1.cell (p := ⟨w.heap.size + 1 + 1 + 1, 5, none⟩) (by first | omega | (simp [ext_size]; try omega))).trans (by (simp (maxDischargeDepth := 8) [go_sem, World.cell?_alloc_past, ltk2, ltk3, ltk4, ltk5, ltk6, ltk7, ltk8, ltk9, *]))
  have cf1_0 : v1.frozen? ⟨w.heap.size + 1 + 1, 0, none⟩ = false := (hb1.frozen (p := ⟨w.heap.size + 1 + 1, 0, none⟩) (by first | omega | (simp [ext_size]; try omega))).trans (by (simp (maxDischargeDepth := 8) [go_sem, World.cell?_alloc_past, ltk2, ltk3, ltk4, ltk5, ltk6, ltk7, ltk8, ltk9, *]))
  have cf1_1 : v1.frozen? ⟨w.heap.size + 1 + 1, 1, none⟩ = false := (hb1.frozen (p := ⟨w.heap.size + 1 + 1, 1, none⟩) (by first | omega | (simp [ext_size]; try omega))).trans (by (simp (maxDischargeDepth := 8) [go_sem, World.cell?_alloc_past, ltk2, ltk3, ltk4, ltk5, ltk6, ltk7, ltk8, ltk9, *]))
  have zl1_0 : w.heap.size + 1 + 1 < v1.heap.size := by omega
  have zl1_1 : w.heap.size + 1 + 1 + 1 < v1.heap.size := by omega
  have hB1 : Below w.heap.size w v1 := Below.trans (by (repeat (first | with_reducible exact b0 _ | (with_reducible refine bext ?_ _ _) | (with_reducible refine below_drewN ?_ _) | (with_reducible refine Below.drew ?_) | (with_reducible refine bal ?_ _)))) (hb1.mono (by first | omega | (simp [ext_size]; try omega)))
  have zw1 := hB1.size
  clear hb1
  go_wp2_with fail
  rw [rounds_succ]
  go_wp2_with fail
  with_reducible refine (A2 _).mono ?_
  rintro e v2 ⟨rfl, hb2⟩
  have zz2 := hb2.size
  try simp [ext_size] at zz2
  have cc2_0 : v2.cell? ⟨w.heap.size + 1 + 1, 0, none⟩ = some (.int .i64 0) := (hb2.cell (p := ⟨w.heap.size + 1 + 1, 0, none⟩) (by first | omega | (simp [ext_size]; try omega))).trans (by (simp (maxDischargeDepth := 8) [go_sem, World.cell?_alloc_past, ltk2, ltk3, ltk4, ltk5, ltk6, ltk7, ltk8, ltk9, *]))
  have cc2_1 : v2.cell? ⟨w.heap.size + 1 + 1, 1, none⟩ = some (.int .i64 0) := (hb2.cell (p := ⟨w.heap.size + 1 + 1, 1, none⟩) (by first | omega | (simp [ext_size]; try omega))).trans (by (simp (maxDischargeDepth := 8) [go_sem, World.cell?_alloc_past, ltk2, ltk3, ltk4, ltk5, ltk6, ltk7, ltk8, ltk9, *]))
  have cc2_2 : v2.cell? ⟨w.heap.size + 1 + 1 + 1, 0, none⟩ = some (.string s) := (hb2.cell (p := ⟨w.heap.size + 1 + 1 + 1, 0, none⟩) (by first | omega | (simp [ext_size]; try omega))).trans (by (simp (maxDischargeDepth := 8) [go_sem, World.cell?_alloc_past, ltk2, ltk3, ltk4, ltk5, ltk6, ltk7, ltk8, ltk9, *]))
  have cc2_3 : v2.cell? ⟨w.heap.size + 1 + 1 + 1, 1, none⟩ = some (.int .i64 ra) := (hb2.cell (p := ⟨w.heap.size + 1 + 1 + 1, 1, none⟩) (by first | omega | (simp [ext_size]; try omega))).trans (by (simp (maxDischargeDepth := 8) [go_sem, World.cell?_alloc_past, ltk2, ltk3, ltk4, ltk5, ltk6, ltk7, ltk8, ltk9, *]))
  have cc2_4 : v2.cell? ⟨w.heap.size + 1 + 1 + 1, 2, none⟩ = some (.int .i64 da) := (hb2.cell (p := ⟨w.heap.size + 1 + 1 + 1, 2, none⟩) (by first | omega | (simp [ext_size]; try omega))).trans (by (simp (maxDischargeDepth := 8) [go_sem, World.cell?_alloc_past, ltk2, ltk3, ltk4, ltk5, ltk6, ltk7, ltk8, ltk9, *]))
  have cc2_5 : v2.cell? ⟨w.heap.size + 1 + 1 + 1, 3, none⟩ = some (.string t) := (hb2.cell (p := ⟨w.heap.size + 1 + 1 + 1, 3, none⟩) (by first | omega | (simp [ext_size]; try omega))).trans (by (simp (maxDischargeDepth := 8) [go_sem, World.cell?_alloc_past, ltk2, ltk3, ltk4, ltk5, ltk6, ltk7, ltk8, ltk9, *]))
  have cc2_6 : v2.cell? ⟨w.heap.size + 1 + 1 + 1, 4, none⟩ = some (.int .i64 rb) := (hb2.cell (p := ⟨w.heap.size + 1 + 1 + 1, 4, none⟩) (by first | omega | (simp [ext_size]; try omega))).trans (by (simp (maxDischargeDepth := 8) [go_sem, World.cell?_alloc_past, ltk2, ltk3, ltk4, ltk5, ltk6, ltk7, ltk8, ltk9, *]))
  have cc2_7 : v2.cell? ⟨w.heap.size + 1 + 1 + 1, 5, none⟩ = some (.int .i64 db) := (hb2.cell (p := ⟨w.heap.size + 1 + 1 + 1, 5, none⟩) (by first | omega | (simp [ext_size]; try omega))).trans (by (simp (maxDischargeDepth := 8) [go_sem, World.cell?_alloc_past, ltk2, ltk3, ltk4, ltk5, ltk6, ltk7, ltk8, ltk9, *]))
  have cf2_0 : v2.frozen? ⟨w.heap.size + 1 + 1, 0, none⟩ = false := (hb2.frozen (p := ⟨w.heap.size + 1 + 1, 0, none⟩) (by first | omega | (simp [ext_size]; try omega))).trans (by (simp (maxDischargeDepth := 8) [go_sem, World.cell?_alloc_past, ltk2, ltk3, ltk4, ltk5, ltk6, ltk7, ltk8, ltk9, *]))
  have cf2_1 : v2.frozen? ⟨w.heap.size + 1 + 1, 1, none⟩ = false := (hb2.frozen (p := ⟨w.heap.size + 1 + 1, 1, none⟩) (by first | omega | (simp [ext_size]; try omega))).trans (by (simp (maxDischargeDepth := 8) [go_sem, World.cell?_alloc_past, ltk2, ltk3, ltk4, ltk5, ltk6, ltk7, ltk8, ltk9, *]))
  have zl2_0 : w.heap.size + 1 + 1 < v2.heap.size := by omega
  have zl2_1 : w.heap.size + 1 + 1 + 1 < v2.heap.size := by omega
  have hB2 : Below w.heap.size w v2 := Below.trans (by (repeat (first | with_reducible exact hB1 | (with_reducible refine bext ?_ _ _) | (with_reducible refine below_drewN ?_ _) | (with_reducible refine Below.drew ?_) | (with_reducible refine bal ?_ _) | (with_reducible refine bset ?_ (by first | omega | (simp <;> omega)) _)))) (hb2.mono (by first | omega | (simp [ext_size]; try omega)))
  have zw2 := hB2.size
  clear hb2
  clear cc1_0 cc1_1 cc1_2 cc1_3 cc1_4 cc1_5 cc1_6 cc1_7 cf1_0 cf1_1 zl1_0 zl1_1 zz1 zw1 hB1
  clear dAl dSt xC xF xS xN xD xL xE xG xX xL1 xL2 xL3 xM0 xM1 xM2 A1 A2
  go_wp2
  refine bodyPost_ret (by simp [results, Try.results15, go_sem, ext_cell, World.cell?_alloc_past, ltk2, ltk3, ltk4, ltk5, ltk6, ltk7, ltk8, ltk9, *]; try rfl) rfl ?_
  exact ⟨rfl, by (repeat (first | with_reducible exact hB2 | (with_reducible refine bext ?_ _ _) | (with_reducible refine below_drewN ?_ _) | (with_reducible refine Below.drew ?_) | (with_reducible refine bal ?_ _) | (with_reducible refine bset ?_ (by first | omega | (simp <;> omega)) _)))⟩

set_option maxRecDepth 100000 in
set_option maxHeartbeats 1600000 in
theorem track_Apart_ok (s t : ByteArray) (ra da rb db x y z: Int) (h1 : srE s ra da = 0) (h2 : srE t rb db = 0) (hq : suR [(sL da, sH da, sL db, sH db), (acL2 da db, acH2 da db, cL (ra - rb), cH (ra - rb))] 0 0 = (x, y, z)) (w : World) :
    Calls Try.prog 15 #[.agg #[.string s, .int .i64 ra, .int .i64 da], .agg #[.string t, .int .i64 rb, .int .i64 db]] w fun r w' => r = .returned (.tuple #[.agg #[.int .i64 x, .int .i64 y], .int .i64 z]) ∧ Below w.heap.size w w' := by
  obtain ⟨n1, n2, n3, n4, n5⟩ := srE_ok h1
  obtain ⟨m1, m2, m3, m4, m5⟩ := srE_ok h2
  have A1 := fun w => track_Check s ra da w
  rw [h1] at A1
  have A2 := fun w => track_Check t rb db w
  rw [h2] at A2
  have A3 := fun w => track_circle da (by omega) (by omega) w
  have A4 := fun w => track_circle db (by omega) (by omega) w
  have A5 := fun w => track_circle (ra - rb) (by omega) (by omega) w
  have A6 := fun w => sine_Mul (cL da) (cH da) (cL db) (cH db) w
  have A7 := fun g0 cap w hg hc => track_sum (pick (sL da) (sH da) (sL db) (sH db) (acL2 da db) (acH2 da db) (cL (ra - rb)) (cH (ra - rb)) 0 0 0 0) g0 cap 2 (by omega) w hg hc
  have e1 : quads (pick (sL da) (sH da) (sL db) (sH db) (acL2 da db) (acH2 da db) (cL (ra - rb)) (cH (ra - rb)) 0 0 0 0) 0 2 = [(sL da, sH da, sL db, sH db), (acL2 da db, acH2 da db, cL (ra - rb), cH (ra - rb))] := rfl
  rw [e1, hq] at A7
  clear e1 hq h1 h2 n1 m1
  unfold acL2 acH2 at A7
  generalize smL (cL da) (cH da) (cL db) (cH db) = p1 at *
  generalize smH (cL da) (cH da) (cL db) (cH db) = p2 at *
  generalize smE (cL da) (cH da) (cL db) (cH db) = p3 at *
  generalize cL da = a1 at *
  generalize cH da = a2 at *
  generalize sL da = a3 at *
  generalize sH da = a4 at *
  generalize cL db = b1 at *
  generalize cH db = b2 at *
  generalize sL db = b3 at *
  generalize sH db = b4 at *
  generalize cL (ra - rb) = c1 at *
  generalize cH (ra - rb) = c2 at *
  generalize sL (ra - rb) = c3 at *
  generalize sH (ra - rb) = c4 at *
  have r1 : -9223372036854775808 ≤ ra - rb := by omega
  have r2 : ra - rb ≤ 9223372036854775807 := by omega
  clear n2 n3 n4 n5 m2 m3 m4 m5
  have dAl := dAl; have dSt := dSt; have xC := ext_cell; have xF := ext_frozen; have xS := ext_set; have xN := ext_drewN; have xD := ext_drew; have xL := ext_lt; have xE := ext_ne; have xG := ext_nr; have xX := ext_ext; have xL1 := ext_lt1; have xL2 := ext_lt2; have xL3 := ext_lt3; have xM0 := ext_le0; have xM1 := ext_le1; have xM2 := ext_le2
  go_enter Try.func15, Try.ntmps15
  go_wp2_with fail
  refine wp_loop_rounds 3 ?_
  rw [rounds_succ]
  go_wp2_with fail
  with_reducible refine (A1 _).mono ?_
  rintro e v1 ⟨rfl, hb1⟩
  have zz1 := hb1.size
  try simp [ext_size] at zz1
  have cc1_0 : v1.cell? ⟨w.heap.size, 0, none⟩ = some (.string s) := (hb1.cell (p := ⟨w.heap.size, 0, none⟩) (by first | omega | (simp [ext_size]; try omega))).trans (by (simp (maxDischargeDepth := 8) [go_sem, World.cell?_alloc_past, ltk2, ltk3, ltk4, ltk5, ltk6, ltk7, ltk8, ltk9, *]))
  have cc1_1 : v1.cell? ⟨w.heap.size, 1, none⟩ = some (.int .i64 ra) := (hb1.cell (p := ⟨w.heap.size, 1, none⟩) (by first | omega | (simp [ext_size]; try omega))).trans (by (simp (maxDischargeDepth := 8) [go_sem, World.cell?_alloc_past, ltk2, ltk3, ltk4, ltk5, ltk6, ltk7, ltk8, ltk9, *]))
  have cc1_2 : v1.cell? ⟨w.heap.size, 2, none⟩ = some (.int .i64 da) := (hb1.cell (p := ⟨w.heap.size, 2, none⟩) (by first | omega | (simp [ext_size]; try omega))).trans (by (simp (maxDischargeDepth := 8) [go_sem, World.cell?_alloc_past, ltk2, ltk3, ltk4, ltk5, ltk6, ltk7, ltk8, ltk9, *]))
  have cc1_3 : v1.cell? ⟨w.heap.size + 1, 0, none⟩ = some (.string t) := (hb1.cell (p := ⟨w.heap.size + 1, 0, none⟩) (by first | omega | (simp [ext_size]; try omega))).trans (by (simp (maxDischargeDepth := 8) [go_sem, World.cell?_alloc_past, ltk2, ltk3, ltk4, ltk5, ltk6, ltk7, ltk8, ltk9, *]))
  have cc1_4 : v1.cell? ⟨w.heap.size + 1, 1, none⟩ = some (.int .i64 rb) := (hb1.cell (p := ⟨w.heap.size + 1, 1, none⟩) (by first | omega | (simp [ext_size]; try omega))).trans (by (simp (maxDischargeDepth := 8) [go_sem, World.cell?_alloc_past, ltk2, ltk3, ltk4, ltk5, ltk6, ltk7, ltk8, ltk9, *]))
  have cc1_5 : v1.cell? ⟨w.heap.size + 1, 2, none⟩ = some (.int .i64 db) := (hb1.cell (p := ⟨w.heap.size + 1, 2, none⟩) (by first | omega | (simp [ext_size]; try omega))).trans (by (simp (maxDischargeDepth := 8) [go_sem, World.cell?_alloc_past, ltk2, ltk3, ltk4, ltk5, ltk6, ltk7, ltk8, ltk9, *]))
  have cc1_6 : v1.cell? ⟨w.heap.size + 1 + 1, 0, none⟩ = some (.int .i64 0) := (hb1.cell (p := ⟨w.heap.size + 1 + 1, 0, none⟩) (by first | omega | (simp [ext_size]; try omega))).trans (by (simp (maxDischargeDepth := 8) [go_sem, World.cell?_alloc_past, ltk2, ltk3, ltk4, ltk5, ltk6, ltk7, ltk8, ltk9, *]))
  have cc1_7 : v1.cell? ⟨w.heap.size + 1 + 1, 1, none⟩ = some (.int .i64 0) := (hb1.cell (p := ⟨w.heap.size + 1 + 1, 1, none⟩) (by first | omega | (simp [ext_size]; try omega))).trans (by (simp (maxDischargeDepth := 8) [go_sem, World.cell?_alloc_past, ltk2, ltk3, ltk4, ltk5, ltk6, ltk7, ltk8, ltk9, *]))
  have cc1_8 : v1.cell? ⟨w.heap.size + 1 + 1 + 1, 0, none⟩ = some (.string s) := (hb1.cell (p := ⟨w.heap.size + 1 + 1 + 1, 0, none⟩) (by first | omega | (simp [ext_size]; try omega))).trans (by (simp (maxDischargeDepth := 8) [go_sem, World.cell?_alloc_past, ltk2, ltk3, ltk4, ltk5, ltk6, ltk7, ltk8, ltk9, *]))
  have cc1_9 : v1.cell? ⟨w.heap.size + 1 + 1 + 1, 1, none⟩ = some (.int .i64 ra) := (hb1.cell (p := ⟨w.heap.size + 1 + 1 + 1, 1, none⟩) (by first | omega | (simp [ext_size]; try omega))).trans (by (simp (maxDischargeDepth := 8) [go_sem, World.cell?_alloc_past, ltk2, ltk3, ltk4, ltk5, ltk6, ltk7, ltk8, ltk9, *]))
  have cc1_10 : v1.cell? ⟨w.heap.size + 1 + 1 + 1, 2, none⟩ = some (.int .i64 da) := (hb1.cell (p := ⟨w.heap.size + 1 + 1 + 1, 2, none⟩) (by first | omega | (simp [ext_size]; try omega))).trans (by (simp (maxDischargeDepth := 8) [go_sem, World.cell?_alloc_past, ltk2, ltk3, ltk4, ltk5, ltk6, ltk7, ltk8, ltk9, *]))
  have cc1_11 : v1.cell? ⟨w.heap.size + 1 + 1 + 1, 3, none⟩ = some (.string t) := (hb1.cell (p := ⟨w.heap.size + 1 + 1 + 1, 3, none⟩) (by first | omega | (simp [ext_size]; try omega))).trans (by (simp (maxDischargeDepth := 8) [go_sem, World.cell?_alloc_past, ltk2, ltk3, ltk4, ltk5, ltk6, ltk7, ltk8, ltk9, *]))
  have cc1_12 : v1.cell? ⟨w.heap.size + 1 + 1 + 1, 4, none⟩ = some (.int .i64 rb) := (hb1.cell (p := ⟨w.heap.size + 1 + 1 + 1, 4, none⟩) (by first | omega | (simp [ext_size]; try omega))).trans (by (simp (maxDischargeDepth := 8) [go_sem, World.cell?_alloc_past, ltk2, ltk3, ltk4, ltk5, ltk6, ltk7, ltk8, ltk9, *]))
  have cc1_13 : v1.cell? ⟨w.heap.size + 1 + 1 + 1, 5, none⟩ = some (.int .i64 db) := (hb1.cell (p := ⟨w.heap.size + 1 + 1 + 1, 5, none⟩) (by first | omega | (simp [ext_size]; try omega))).trans (by (simp (maxDischargeDepth := 8) [go_sem, World.cell?_alloc_past, ltk2, ltk3, ltk4, ltk5, ltk6, ltk7, ltk8, ltk9, *]))
  have cf1_0 : v1.frozen? ⟨w.heap.size + 1 + 1, 0, none⟩ = false := (hb1.frozen (p := ⟨w.heap.size + 1 + 1, 0, none⟩) (by first | omega | (simp [ext_size]; try omega))).trans (by (simp (maxDischargeDepth := 8) [go_sem, World.cell?_alloc_past, ltk2, ltk3, ltk4, ltk5, ltk6, ltk7, ltk8, ltk9, *]))
  have cf1_1 : v1.frozen? ⟨w.heap.size + 1 + 1, 1, none⟩ = false := (hb1.frozen (p := ⟨w.heap.size + 1 + 1, 1, none⟩) (by first | omega | (simp [ext_size]; try omega))).trans (by (simp (maxDischargeDepth := 8) [go_sem, World.cell?_alloc_past, ltk2, ltk3, ltk4, ltk5, ltk6, ltk7, ltk8, ltk9, *]))
  have zl1_0 : w.heap.size < v1.heap.size := by omega
  have zl1_1 : w.heap.size + 1 < v1.heap.size := by omega
  have zl1_2 : w.heap.size + 1 + 1 < v1.heap.size := by omega
  have zl1_3 : w.heap.size + 1 + 1 + 1 < v1.heap.size := by omega
  have hB1 : Below w.heap.size w v1 := Below.trans (by (repeat (first | with_reducible exact b0 _ | (with_reducible refine bext ?_ _ _) | (with_reducible refine below_drewN ?_ _) | (with_reducible refine Below.drew ?_) | (with_reducible refine bal ?_ _)))) (hb1.mono (by first | omega | (simp [ext_size]; try omega)))
  have zw1 := hB1.size
  clear hb1
  go_wp2_with fail
  rw [rounds_succ]
  go_wp2_with fail
  with_reducible refine (A2 _).mono ?_
  rintro e v2 ⟨rfl, hb2⟩
  have zz2 := hb2.size
  try simp [ext_size] at zz2
  have cc2_0 : v2.cell? ⟨w.heap.size, 0, none⟩ = some (.string s) := (hb2.cell (p := ⟨w.heap.size, 0, none⟩) (by first | omega | (simp [ext_size]; try omega))).trans (by (simp (maxDischargeDepth := 8) [go_sem, World.cell?_alloc_past, ltk2, ltk3, ltk4, ltk5, ltk6, ltk7, ltk8, ltk9, *]))
  have cc2_1 : v2.cell? ⟨w.heap.size, 1, none⟩ = some (.int .i64 ra) := (hb2.cell (p := ⟨w.heap.size, 1, none⟩) (by first | omega | (simp [ext_size]; try omega))).trans (by (simp (maxDischargeDepth := 8) [go_sem, World.cell?_alloc_past, ltk2, ltk3, ltk4, ltk5, ltk6, ltk7, ltk8, ltk9, *]))
  have cc2_2 : v2.cell? ⟨w.heap.size, 2, none⟩ = some (.int .i64 da) := (hb2.cell (p := ⟨w.heap.size, 2, none⟩) (by first | omega | (simp [ext_size]; try omega))).trans (by (simp (maxDischargeDepth := 8) [go_sem, World.cell?_alloc_past, ltk2, ltk3, ltk4, ltk5, ltk6, ltk7, ltk8, ltk9, *]))
  have cc2_3 : v2.cell? ⟨w.heap.size + 1, 0, none⟩ = some (.string t) := (hb2.cell (p := ⟨w.heap.size + 1, 0, none⟩) (by first | omega | (simp [ext_size]; try omega))).trans (by (simp (maxDischargeDepth := 8) [go_sem, World.cell?_alloc_past, ltk2, ltk3, ltk4, ltk5, ltk6, ltk7, ltk8, ltk9, *]))
  have cc2_4 : v2.cell? ⟨w.heap.size + 1, 1, none⟩ = some (.int .i64 rb) := (hb2.cell (p := ⟨w.heap.size + 1, 1, none⟩) (by first | omega | (simp [ext_size]; try omega))).trans (by (simp (maxDischargeDepth := 8) [go_sem, World.cell?_alloc_past, ltk2, ltk3, ltk4, ltk5, ltk6, ltk7, ltk8, ltk9, *]))
  have cc2_5 : v2.cell? ⟨w.heap.size + 1, 2, none⟩ = some (.int .i64 db) := (hb2.cell (p := ⟨w.heap.size + 1, 2, none⟩) (by first | omega | (simp [ext_size]; try omega))).trans (by (simp (maxDischargeDepth := 8) [go_sem, World.cell?_alloc_past, ltk2, ltk3, ltk4, ltk5, ltk6, ltk7, ltk8, ltk9, *]))
  have cc2_6 : v2.cell? ⟨w.heap.size + 1 + 1, 0, none⟩ = some (.int .i64 0) := (hb2.cell (p := ⟨w.heap.size + 1 + 1, 0, none⟩) (by first | omega | (simp [ext_size]; try omega))).trans (by (simp (maxDischargeDepth := 8) [go_sem, World.cell?_alloc_past, ltk2, ltk3, ltk4, ltk5, ltk6, ltk7, ltk8, ltk9, *]))
  have cc2_7 : v2.cell? ⟨w.heap.size + 1 + 1, 1, none⟩ = some (.int .i64 0) := (hb2.cell (p := ⟨w.heap.size + 1 + 1, 1, none⟩) (by first | omega | (simp [ext_size]; try omega))).trans (by (simp (maxDischargeDepth := 8) [go_sem, World.cell?_alloc_past, ltk2, ltk3, ltk4, ltk5, ltk6, ltk7, ltk8, ltk9, *]))
  have cc2_8 : v2.cell? ⟨w.heap.size + 1 + 1 + 1, 0, none⟩ = some (.string s) := (hb2.cell (p := ⟨w.heap.size + 1 + 1 + 1, 0, none⟩) (by first | omega | (simp [ext_size]; try omega))).trans (by (simp (maxDischargeDepth := 8) [go_sem, World.cell?_alloc_past, ltk2, ltk3, ltk4, ltk5, ltk6, ltk7, ltk8, ltk9, *]))
  have cc2_9 : v2.cell? ⟨w.heap.size + 1 + 1 + 1, 1, none⟩ = some (.int .i64 ra) := (hb2.cell (p := ⟨w.heap.size + 1 + 1 + 1, 1, none⟩) (by first | omega | (simp [ext_size]; try omega))).trans (by (simp (maxDischargeDepth := 8) [go_sem, World.cell?_alloc_past, ltk2, ltk3, ltk4, ltk5, ltk6, ltk7, ltk8, ltk9, *]))
  have cc2_10 : v2.cell? ⟨w.heap.size + 1 + 1 + 1, 2, none⟩ = some (.int .i64 da) := (hb2.cell (p := ⟨w.heap.size + 1 + 1 + 1, 2, none⟩) (by first | omega | (simp [ext_size]; try omega))).trans (by (simp (maxDischargeDepth := 8) [go_sem, World.cell?_alloc_past, ltk2, ltk3, ltk4, ltk5, ltk6, ltk7, ltk8, ltk9, *]))
  have cc2_11 : v2.cell? ⟨w.heap.size + 1 + 1 + 1, 3, none⟩ = some (.string t) := (hb2.cell (p := ⟨w.heap.size + 1 + 1 + 1, 3, none⟩) (by first | omega | (simp [ext_size]; try omega))).trans (by (simp (maxDischargeDepth := 8) [go_sem, World.cell?_alloc_past, ltk2, ltk3, ltk4, ltk5, ltk6, ltk7, ltk8, ltk9, *]))
  have cc2_12 : v2.cell? ⟨w.heap.size + 1 + 1 + 1, 4, none⟩ = some (.int .i64 rb) := (hb2.cell (p := ⟨w.heap.size + 1 + 1 + 1, 4, none⟩) (by first | omega | (simp [ext_size]; try omega))).trans (by (simp (maxDischargeDepth := 8) [go_sem, World.cell?_alloc_past, ltk2, ltk3, ltk4, ltk5, ltk6, ltk7, ltk8, ltk9, *]))
  have cc2_13 : v2.cell? ⟨w.heap.size + 1 + 1 + 1, 5, none⟩ = some (.int .i64 db) := (hb2.cell (p := ⟨w.heap.size + 1 + 1 + 1, 5, none⟩) (by first | omega | (simp [ext_size]; try omega))).trans (by (simp (maxDischargeDepth := 8) [go_sem, World.cell?_alloc_past, ltk2, ltk3, ltk4, ltk5, ltk6, ltk7, ltk8, ltk9, *]))
  have cf2_0 : v2.frozen? ⟨w.heap.size + 1 + 1, 0, none⟩ = false := (hb2.frozen (p := ⟨w.heap.size + 1 + 1, 0, none⟩) (by first | omega | (simp [ext_size]; try omega))).trans (by (simp (maxDischargeDepth := 8) [go_sem, World.cell?_alloc_past, ltk2, ltk3, ltk4, ltk5, ltk6, ltk7, ltk8, ltk9, *]))
  have cf2_1 : v2.frozen? ⟨w.heap.size + 1 + 1, 1, none⟩ = false := (hb2.frozen (p := ⟨w.heap.size + 1 + 1, 1, none⟩) (by first | omega | (simp [ext_size]; try omega))).trans (by (simp (maxDischargeDepth := 8) [go_sem, World.cell?_alloc_past, ltk2, ltk3, ltk4, ltk5, ltk6, ltk7, ltk8, ltk9, *]))
  have zl2_0 : w.heap.size < v2.heap.size := by omega
  have zl2_1 : w.heap.size + 1 < v2.heap.size := by omega
  have zl2_2 : w.heap.size + 1 + 1 < v2.heap.size := by omega
  have zl2_3 : w.heap.size + 1 + 1 + 1 < v2.heap.size := by omega
  have hB2 : Below w.heap.size w v2 := Below.trans (by (repeat (first | with_reducible exact hB1 | (with_reducible refine bext ?_ _ _) | (with_reducible refine below_drewN ?_ _) | (with_reducible refine Below.drew ?_) | (with_reducible refine bal ?_ _) | (with_reducible refine bset ?_ (by first | omega | (simp <;> omega)) _)))) (hb2.mono (by first | omega | (simp [ext_size]; try omega)))
  have zw2 := hB2.size
  clear hb2
  clear cc1_0 cc1_1 cc1_2 cc1_3 cc1_4 cc1_5 cc1_6 cc1_7 cc1_8 cc1_9 cc1_10 cc1_11 cc1_12 cc1_13 cf1_0 cf1_1 zl1_0 zl1_1 zl1_2 zl1_3 zz1 zw1 hB1
  go_wp2_with fail
  rw [rounds_succ]
  go_wp2_with fail
  with_reducible refine (A3 _).mono ?_
  rintro e v3 ⟨rfl, hb3⟩
  have zz3 := hb3.size
  try simp [ext_size] at zz3
  have cc3_0 : v3.cell? ⟨w.heap.size, 0, none⟩ = some (.string s) := (hb3.cell (p := ⟨w.heap.size, 0, none⟩) (by first | omega | (simp [ext_size]; try omega))).trans (by (simp (maxDischargeDepth := 8) [go_sem, World.cell?_alloc_past, ltk2, ltk3, ltk4, ltk5, ltk6, ltk7, ltk8, ltk9, *]))
  have cc3_1 : v3.cell? ⟨w.heap.size, 1, none⟩ = some (.int .i64 ra) := (hb3.cell (p := ⟨w.heap.size, 1, none⟩) (by first | omega | (simp [ext_size]; try omega))).trans (by (simp (maxDischargeDepth := 8) [go_sem, World.cell?_alloc_past, ltk2, ltk3, ltk4, ltk5, ltk6, ltk7, ltk8, ltk9, *]))
  have cc3_2 : v3.cell? ⟨w.heap.size, 2, none⟩ = some (.int .i64 da) := (hb3.cell (p := ⟨w.heap.size, 2, none⟩) (by first | omega | (simp [ext_size]; try omega))).trans (by (simp (maxDischargeDepth := 8) [go_sem, World.cell?_alloc_past, ltk2, ltk3, ltk4, ltk5, ltk6, ltk7, ltk8, ltk9, *]))
  have cc3_3 : v3.cell? ⟨w.heap.size + 1, 0, none⟩ = some (.string t) := (hb3.cell (p := ⟨w.heap.size + 1, 0, none⟩) (by first | omega | (simp [ext_size]; try omega))).trans (by (simp (maxDischargeDepth := 8) [go_sem, World.cell?_alloc_past, ltk2, ltk3, ltk4, ltk5, ltk6, ltk7, ltk8, ltk9, *]))
  have cc3_4 : v3.cell? ⟨w.heap.size + 1, 1, none⟩ = some (.int .i64 rb) := (hb3.cell (p := ⟨w.heap.size + 1, 1, none⟩) (by first | omega | (simp [ext_size]; try omega))).trans (by (simp (maxDischargeDepth := 8) [go_sem, World.cell?_alloc_past, ltk2, ltk3, ltk4, ltk5, ltk6, ltk7, ltk8, ltk9, *]))
  have cc3_5 : v3.cell? ⟨w.heap.size + 1, 2, none⟩ = some (.int .i64 db) := (hb3.cell (p := ⟨w.heap.size + 1, 2, none⟩) (by first | omega | (simp [ext_size]; try omega))).trans (by (simp (maxDischargeDepth := 8) [go_sem, World.cell?_alloc_past, ltk2, ltk3, ltk4, ltk5, ltk6, ltk7, ltk8, ltk9, *]))
  have cc3_6 : v3.cell? ⟨w.heap.size + 1 + 1, 0, none⟩ = some (.int .i64 0) := (hb3.cell (p := ⟨w.heap.size + 1 + 1, 0, none⟩) (by first | omega | (simp [ext_size]; try omega))).trans (by (simp (maxDischargeDepth := 8) [go_sem, World.cell?_alloc_past, ltk2, ltk3, ltk4, ltk5, ltk6, ltk7, ltk8, ltk9, *]))
  have cc3_7 : v3.cell? ⟨w.heap.size + 1 + 1, 1, none⟩ = some (.int .i64 0) := (hb3.cell (p := ⟨w.heap.size + 1 + 1, 1, none⟩) (by first | omega | (simp [ext_size]; try omega))).trans (by (simp (maxDischargeDepth := 8) [go_sem, World.cell?_alloc_past, ltk2, ltk3, ltk4, ltk5, ltk6, ltk7, ltk8, ltk9, *]))
  have cf3_0 : v3.frozen? ⟨w.heap.size + 1 + 1, 0, none⟩ = false := (hb3.frozen (p := ⟨w.heap.size + 1 + 1, 0, none⟩) (by first | omega | (simp [ext_size]; try omega))).trans (by (simp (maxDischargeDepth := 8) [go_sem, World.cell?_alloc_past, ltk2, ltk3, ltk4, ltk5, ltk6, ltk7, ltk8, ltk9, *]))
  have cf3_1 : v3.frozen? ⟨w.heap.size + 1 + 1, 1, none⟩ = false := (hb3.frozen (p := ⟨w.heap.size + 1 + 1, 1, none⟩) (by first | omega | (simp [ext_size]; try omega))).trans (by (simp (maxDischargeDepth := 8) [go_sem, World.cell?_alloc_past, ltk2, ltk3, ltk4, ltk5, ltk6, ltk7, ltk8, ltk9, *]))
  have zl3_0 : w.heap.size < v3.heap.size := by omega
  have zl3_1 : w.heap.size + 1 < v3.heap.size := by omega
  have zl3_2 : w.heap.size + 1 + 1 < v3.heap.size := by omega
  have hB3 : Below w.heap.size w v3 := Below.trans (by (repeat (first | with_reducible exact hB2 | (with_reducible refine bext ?_ _ _) | (with_reducible refine below_drewN ?_ _) | (with_reducible refine Below.drew ?_) | (with_reducible refine bal ?_ _) | (with_reducible refine bset ?_ (by first | omega | (simp <;> omega)) _)))) (hb3.mono (by first | omega | (simp [ext_size]; try omega)))
  have zw3 := hB3.size
  clear hb3
  clear cc2_0 cc2_1 cc2_2 cc2_3 cc2_4 cc2_5 cc2_6 cc2_7 cc2_8 cc2_9 cc2_10 cc2_11 cc2_12 cc2_13 cf2_0 cf2_1 zl2_0 zl2_1 zl2_2 zl2_3 zz2 zw2 hB2
  go_wp2_with fail
  with_reducible refine (A4 _).mono ?_
  rintro e v4 ⟨rfl, hb4⟩
  have zz4 := hb4.size
  try simp [ext_size] at zz4
  have cc4_0 : v4.cell? ⟨w.heap.size, 0, none⟩ = some (.string s) := (hb4.cell (p := ⟨w.heap.size, 0, none⟩) (by first | omega | (simp [ext_size]; try omega))).trans (by (simp (maxDischargeDepth := 8) [go_sem, World.cell?_alloc_past, ltk2, ltk3, ltk4, ltk5, ltk6, ltk7, ltk8, ltk9, *]))
  have cc4_1 : v4.cell? ⟨w.heap.size, 1, none⟩ = some (.int .i64 ra) := (hb4.cell (p := ⟨w.heap.size, 1, none⟩) (by first | omega | (simp [ext_size]; try omega))).trans (by (simp (maxDischargeDepth := 8) [go_sem, World.cell?_alloc_past, ltk2, ltk3, ltk4, ltk5, ltk6, ltk7, ltk8, ltk9, *]))
  have cc4_2 : v4.cell? ⟨w.heap.size, 2, none⟩ = some (.int .i64 da) := (hb4.cell (p := ⟨w.heap.size, 2, none⟩) (by first | omega | (simp [ext_size]; try omega))).trans (by (simp (maxDischargeDepth := 8) [go_sem, World.cell?_alloc_past, ltk2, ltk3, ltk4, ltk5, ltk6, ltk7, ltk8, ltk9, *]))
  have cc4_3 : v4.cell? ⟨w.heap.size + 1, 0, none⟩ = some (.string t) := (hb4.cell (p := ⟨w.heap.size + 1, 0, none⟩) (by first | omega | (simp [ext_size]; try omega))).trans (by (simp (maxDischargeDepth := 8) [go_sem, World.cell?_alloc_past, ltk2, ltk3, ltk4, ltk5, ltk6, ltk7, ltk8, ltk9, *]))
  have cc4_4 : v4.cell? ⟨w.heap.size + 1, 1, none⟩ = some (.int .i64 rb) := (hb4.cell (p := ⟨w.heap.size + 1, 1, none⟩) (by first | omega | (simp [ext_size]; try omega))).trans (by (simp (maxDischargeDepth := 8) [go_sem, World.cell?_alloc_past, ltk2, ltk3, ltk4, ltk5, ltk6, ltk7, ltk8, ltk9, *]))
  have cc4_5 : v4.cell? ⟨w.heap.size + 1, 2, none⟩ = some (.int .i64 db) := (hb4.cell (p := ⟨w.heap.size + 1, 2, none⟩) (by first | omega | (simp [ext_size]; try omega))).trans (by (simp (maxDischargeDepth := 8) [go_sem, World.cell?_alloc_past, ltk2, ltk3, ltk4, ltk5, ltk6, ltk7, ltk8, ltk9, *]))
  have cc4_6 : v4.cell? ⟨w.heap.size + 1 + 1, 0, none⟩ = some (.int .i64 0) := (hb4.cell (p := ⟨w.heap.size + 1 + 1, 0, none⟩) (by first | omega | (simp [ext_size]; try omega))).trans (by (simp (maxDischargeDepth := 8) [go_sem, World.cell?_alloc_past, ltk2, ltk3, ltk4, ltk5, ltk6, ltk7, ltk8, ltk9, *]))
  have cc4_7 : v4.cell? ⟨w.heap.size + 1 + 1, 1, none⟩ = some (.int .i64 0) := (hb4.cell (p := ⟨w.heap.size + 1 + 1, 1, none⟩) (by first | omega | (simp [ext_size]; try omega))).trans (by (simp (maxDischargeDepth := 8) [go_sem, World.cell?_alloc_past, ltk2, ltk3, ltk4, ltk5, ltk6, ltk7, ltk8, ltk9, *]))
  have cc4_8 : v4.cell? ⟨v3.heap.size, 0, none⟩ = some (.int .i64 a1) := (hb4.cell (p := ⟨v3.heap.size, 0, none⟩) (by first | omega | (simp [ext_size]; try omega))).trans (by (simp (maxDischargeDepth := 8) [go_sem, World.cell?_alloc_past, ltk2, ltk3, ltk4, ltk5, ltk6, ltk7, ltk8, ltk9, *]))
  have cc4_9 : v4.cell? ⟨v3.heap.size, 1, none⟩ = some (.int .i64 a2) := (hb4.cell (p := ⟨v3.heap.size, 1, none⟩) (by first | omega | (simp [ext_size]; try omega))).trans (by (simp (maxDischargeDepth := 8) [go_sem, World.cell?_alloc_past, ltk2, ltk3, ltk4, ltk5, ltk6, ltk7, ltk8, ltk9, *]))
  have cc4_10 : v4.cell? ⟨v3.heap.size + 1, 0, none⟩ = some (.int .i64 a3) := (hb4.cell (p := ⟨v3.heap.size + 1, 0, none⟩) (by first | omega | (simp [ext_size]; try omega))).trans (by (simp (maxDischargeDepth := 8) [go_sem, World.cell?_alloc_past, ltk2, ltk3, ltk4, ltk5, ltk6, ltk7, ltk8, ltk9, *]))
  have cc4_11 : v4.cell? ⟨v3.heap.size + 1, 1, none⟩ = some (.int .i64 a4) := (hb4.cell (p := ⟨v3.heap.size + 1, 1, none⟩) (by first | omega | (simp [ext_size]; try omega))).trans (by (simp (maxDischargeDepth := 8) [go_sem, World.cell?_alloc_past, ltk2, ltk3, ltk4, ltk5, ltk6, ltk7, ltk8, ltk9, *]))
  have cf4_0 : v4.frozen? ⟨w.heap.size + 1 + 1, 0, none⟩ = false := (hb4.frozen (p := ⟨w.heap.size + 1 + 1, 0, none⟩) (by first | omega | (simp [ext_size]; try omega))).trans (by (simp (maxDischargeDepth := 8) [go_sem, World.cell?_alloc_past, ltk2, ltk3, ltk4, ltk5, ltk6, ltk7, ltk8, ltk9, *]))
  have cf4_1 : v4.frozen? ⟨w.heap.size + 1 + 1, 1, none⟩ = false := (hb4.frozen (p := ⟨w.heap.size + 1 + 1, 1, none⟩) (by first | omega | (simp [ext_size]; try omega))).trans (by (simp (maxDischargeDepth := 8) [go_sem, World.cell?_alloc_past, ltk2, ltk3, ltk4, ltk5, ltk6, ltk7, ltk8, ltk9, *]))
  have zl4_0 : w.heap.size < v4.heap.size := by omega
  have zl4_1 : w.heap.size + 1 < v4.heap.size := by omega
  have zl4_2 : w.heap.size + 1 + 1 < v4.heap.size := by omega
  have zl4_3 : v3.heap.size < v4.heap.size := by omega
  have zl4_4 : v3.heap.size + 1 < v4.heap.size := by omega
  have hB4 : Below w.heap.size w v4 := Below.trans (by (repeat (first | with_reducible exact hB3 | (with_reducible refine bext ?_ _ _) | (with_reducible refine below_drewN ?_ _) | (with_reducible refine Below.drew ?_) | (with_reducible refine bal ?_ _) | (with_reducible refine bset ?_ (by first | omega | (simp <;> omega)) _)))) (hb4.mono (by first | omega | (simp [ext_size]; try omega)))
  have zw4 := hB4.size
  clear hb4
  clear cc3_0 cc3_1 cc3_2 cc3_3 cc3_4 cc3_5 cc3_6 cc3_7 cf3_0 cf3_1 zl3_0 zl3_1 zl3_2 zz3 zw3 hB3
  go_wp2_with fail
  with_reducible refine (A5 _).mono ?_
  rintro e v5 ⟨rfl, hb5⟩
  have zz5 := hb5.size
  try simp [ext_size] at zz5
  have cc5_0 : v5.cell? ⟨w.heap.size, 0, none⟩ = some (.string s) := (hb5.cell (p := ⟨w.heap.size, 0, none⟩) (by first | omega | (simp [ext_size]; try omega))).trans (by (simp (maxDischargeDepth := 8) [go_sem, World.cell?_alloc_past, ltk2, ltk3, ltk4, ltk5, ltk6, ltk7, ltk8, ltk9, *]))
  have cc5_1 : v5.cell? ⟨w.heap.size, 1, none⟩ = some (.int .i64 ra) := (hb5.cell (p := ⟨w.heap.size, 1, none⟩) (by first | omega | (simp [ext_size]; try omega))).trans (by (simp (maxDischargeDepth := 8) [go_sem, World.cell?_alloc_past, ltk2, ltk3, ltk4, ltk5, ltk6, ltk7, ltk8, ltk9, *]))
  have cc5_2 : v5.cell? ⟨w.heap.size, 2, none⟩ = some (.int .i64 da) := (hb5.cell (p := ⟨w.heap.size, 2, none⟩) (by first | omega | (simp [ext_size]; try omega))).trans (by (simp (maxDischargeDepth := 8) [go_sem, World.cell?_alloc_past, ltk2, ltk3, ltk4, ltk5, ltk6, ltk7, ltk8, ltk9, *]))
  have cc5_3 : v5.cell? ⟨w.heap.size + 1, 0, none⟩ = some (.string t) := (hb5.cell (p := ⟨w.heap.size + 1, 0, none⟩) (by first | omega | (simp [ext_size]; try omega))).trans (by (simp (maxDischargeDepth := 8) [go_sem, World.cell?_alloc_past, ltk2, ltk3, ltk4, ltk5, ltk6, ltk7, ltk8, ltk9, *]))
  have cc5_4 : v5.cell? ⟨w.heap.size + 1, 1, none⟩ = some (.int .i64 rb) := (hb5.cell (p := ⟨w.heap.size + 1, 1, none⟩) (by first | omega | (simp [ext_size]; try omega))).trans (by (simp (maxDischargeDepth := 8) [go_sem, World.cell?_alloc_past, ltk2, ltk3, ltk4, ltk5, ltk6, ltk7, ltk8, ltk9, *]))
  have cc5_5 : v5.cell? ⟨w.heap.size + 1, 2, none⟩ = some (.int .i64 db) := (hb5.cell (p := ⟨w.heap.size + 1, 2, none⟩) (by first | omega | (simp [ext_size]; try omega))).trans (by (simp (maxDischargeDepth := 8) [go_sem, World.cell?_alloc_past, ltk2, ltk3, ltk4, ltk5, ltk6, ltk7, ltk8, ltk9, *]))
  have cc5_6 : v5.cell? ⟨w.heap.size + 1 + 1, 0, none⟩ = some (.int .i64 0) := (hb5.cell (p := ⟨w.heap.size + 1 + 1, 0, none⟩) (by first | omega | (simp [ext_size]; try omega))).trans (by (simp (maxDischargeDepth := 8) [go_sem, World.cell?_alloc_past, ltk2, ltk3, ltk4, ltk5, ltk6, ltk7, ltk8, ltk9, *]))
  have cc5_7 : v5.cell? ⟨w.heap.size + 1 + 1, 1, none⟩ = some (.int .i64 0) := (hb5.cell (p := ⟨w.heap.size + 1 + 1, 1, none⟩) (by first | omega | (simp [ext_size]; try omega))).trans (by (simp (maxDischargeDepth := 8) [go_sem, World.cell?_alloc_past, ltk2, ltk3, ltk4, ltk5, ltk6, ltk7, ltk8, ltk9, *]))
  have cc5_8 : v5.cell? ⟨v3.heap.size, 0, none⟩ = some (.int .i64 a1) := (hb5.cell (p := ⟨v3.heap.size, 0, none⟩) (by first | omega | (simp [ext_size]; try omega))).trans (by (simp (maxDischargeDepth := 8) [go_sem, World.cell?_alloc_past, ltk2, ltk3, ltk4, ltk5, ltk6, ltk7, ltk8, ltk9, *]))
  have cc5_9 : v5.cell? ⟨v3.heap.size, 1, none⟩ = some (.int .i64 a2) := (hb5.cell (p := ⟨v3.heap.size, 1, none⟩) (by first | omega | (simp [ext_size]; try omega))).trans (by (simp (maxDischargeDepth := 8) [go_sem, World.cell?_alloc_past, ltk2, ltk3, ltk4, ltk5, ltk6, ltk7, ltk8, ltk9, *]))
  have cc5_10 : v5.cell? ⟨v3.heap.size + 1, 0, none⟩ = some (.int .i64 a3) := (hb5.cell (p := ⟨v3.heap.size + 1, 0, none⟩) (by first | omega | (simp [ext_size]; try omega))).trans (by (simp (maxDischargeDepth := 8) [go_sem, World.cell?_alloc_past, ltk2, ltk3, ltk4, ltk5, ltk6, ltk7, ltk8, ltk9, *]))
  have cc5_11 : v5.cell? ⟨v3.heap.size + 1, 1, none⟩ = some (.int .i64 a4) := (hb5.cell (p := ⟨v3.heap.size + 1, 1, none⟩) (by first | omega | (simp [ext_size]; try omega))).trans (by (simp (maxDischargeDepth := 8) [go_sem, World.cell?_alloc_past, ltk2, ltk3, ltk4, ltk5, ltk6, ltk7, ltk8, ltk9, *]))
  have cc5_12 : v5.cell? ⟨v4.heap.size, 0, none⟩ = some (.int .i64 b1) := (hb5.cell (p := ⟨v4.heap.size, 0, none⟩) (by first | omega | (simp [ext_size]; try omega))).trans (by (simp (maxDischargeDepth := 8) [go_sem, World.cell?_alloc_past, ltk2, ltk3, ltk4, ltk5, ltk6, ltk7, ltk8, ltk9, *]))
  have cc5_13 : v5.cell? ⟨v4.heap.size, 1, none⟩ = some (.int .i64 b2) := (hb5.cell (p := ⟨v4.heap.size, 1, none⟩) (by first | omega | (simp [ext_size]; try omega))).trans (by (simp (maxDischargeDepth := 8) [go_sem, World.cell?_alloc_past, ltk2, ltk3, ltk4, ltk5, ltk6, ltk7, ltk8, ltk9, *]))
  have cc5_14 : v5.cell? ⟨v4.heap.size + 1, 0, none⟩ = some (.int .i64 b3) := (hb5.cell (p := ⟨v4.heap.size + 1, 0, none⟩) (by first | omega | (simp [ext_size]; try omega))).trans (by (simp (maxDischargeDepth := 8) [go_sem, World.cell?_alloc_past, ltk2, ltk3, ltk4, ltk5, ltk6, ltk7, ltk8, ltk9, *]))
  have cc5_15 : v5.cell? ⟨v4.heap.size + 1, 1, none⟩ = some (.int .i64 b4) := (hb5.cell (p := ⟨v4.heap.size + 1, 1, none⟩) (by first | omega | (simp [ext_size]; try omega))).trans (by (simp (maxDischargeDepth := 8) [go_sem, World.cell?_alloc_past, ltk2, ltk3, ltk4, ltk5, ltk6, ltk7, ltk8, ltk9, *]))
  have cf5_0 : v5.frozen? ⟨w.heap.size + 1 + 1, 0, none⟩ = false := (hb5.frozen (p := ⟨w.heap.size + 1 + 1, 0, none⟩) (by first | omega | (simp [ext_size]; try omega))).trans (by (simp (maxDischargeDepth := 8) [go_sem, World.cell?_alloc_past, ltk2, ltk3, ltk4, ltk5, ltk6, ltk7, ltk8, ltk9, *]))
  have cf5_1 : v5.frozen? ⟨w.heap.size + 1 + 1, 1, none⟩ = false := (hb5.frozen (p := ⟨w.heap.size + 1 + 1, 1, none⟩) (by first | omega | (simp [ext_size]; try omega))).trans (by (simp (maxDischargeDepth := 8) [go_sem, World.cell?_alloc_past, ltk2, ltk3, ltk4, ltk5, ltk6, ltk7, ltk8, ltk9, *]))
  have zl5_0 : w.heap.size < v5.heap.size := by omega
  have zl5_1 : w.heap.size + 1 < v5.heap.size := by omega
  have zl5_2 : w.heap.size + 1 + 1 < v5.heap.size := by omega
  have zl5_3 : v3.heap.size < v5.heap.size := by omega
  have zl5_4 : v3.heap.size + 1 < v5.heap.size := by omega
  have zl5_5 : v4.heap.size < v5.heap.size := by omega
  have zl5_6 : v4.heap.size + 1 < v5.heap.size := by omega
  have hB5 : Below w.heap.size w v5 := Below.trans (by (repeat (first | with_reducible exact hB4 | (with_reducible refine bext ?_ _ _) | (with_reducible refine below_drewN ?_ _) | (with_reducible refine Below.drew ?_) | (with_reducible refine bal ?_ _) | (with_reducible refine bset ?_ (by first | omega | (simp <;> omega)) _)))) (hb5.mono (by first | omega | (simp [ext_size]; try omega)))
  have zw5 := hB5.size
  clear hb5
  clear cc4_0 cc4_1 cc4_2 cc4_3 cc4_4 cc4_5 cc4_6 cc4_7 cc4_8 cc4_9 cc4_10 cc4_11 cf4_0 cf4_1 zl4_0 zl4_1 zl4_2 zl4_3 zl4_4 zz4 zw4 hB4
  go_wp2_with fail
  with_reducible refine (A6 _).mono ?_
  rintro e v6 ⟨rfl, hb6⟩
  have zz6 := hb6.size
  try simp [ext_size] at zz6
  have cc6_0 : v6.cell? ⟨w.heap.size + 1 + 1, 0, none⟩ = some (.int .i64 0) := (hb6.cell (p := ⟨w.heap.size + 1 + 1, 0, none⟩) (by first | omega | (simp [ext_size]; try omega))).trans (by (simp (maxDischargeDepth := 8) [go_sem, World.cell?_alloc_past, ltk2, ltk3, ltk4, ltk5, ltk6, ltk7, ltk8, ltk9, *]))
  have cc6_1 : v6.cell? ⟨w.heap.size + 1 + 1, 1, none⟩ = some (.int .i64 0) := (hb6.cell (p := ⟨w.heap.size + 1 + 1, 1, none⟩) (by first | omega | (simp [ext_size]; try omega))).trans (by (simp (maxDischargeDepth := 8) [go_sem, World.cell?_alloc_past, ltk2, ltk3, ltk4, ltk5, ltk6, ltk7, ltk8, ltk9, *]))
  have cc6_2 : v6.cell? ⟨v3.heap.size, 0, none⟩ = some (.int .i64 a1) := (hb6.cell (p := ⟨v3.heap.size, 0, none⟩) (by first | omega | (simp [ext_size]; try omega))).trans (by (simp (maxDischargeDepth := 8) [go_sem, World.cell?_alloc_past, ltk2, ltk3, ltk4, ltk5, ltk6, ltk7, ltk8, ltk9, *]))
  have cc6_3 : v6.cell? ⟨v3.heap.size, 1, none⟩ = some (.int .i64 a2) := (hb6.cell (p := ⟨v3.heap.size, 1, none⟩) (by first | omega | (simp [ext_size]; try omega))).trans (by (simp (maxDischargeDepth := 8) [go_sem, World.cell?_alloc_past, ltk2, ltk3, ltk4, ltk5, ltk6, ltk7, ltk8, ltk9, *]))
  have cc6_4 : v6.cell? ⟨v3.heap.size + 1, 0, none⟩ = some (.int .i64 a3) := (hb6.cell (p := ⟨v3.heap.size + 1, 0, none⟩) (by first | omega | (simp [ext_size]; try omega))).trans (by (simp (maxDischargeDepth := 8) [go_sem, World.cell?_alloc_past, ltk2, ltk3, ltk4, ltk5, ltk6, ltk7, ltk8, ltk9, *]))
  have cc6_5 : v6.cell? ⟨v3.heap.size + 1, 1, none⟩ = some (.int .i64 a4) := (hb6.cell (p := ⟨v3.heap.size + 1, 1, none⟩) (by first | omega | (simp [ext_size]; try omega))).trans (by (simp (maxDischargeDepth := 8) [go_sem, World.cell?_alloc_past, ltk2, ltk3, ltk4, ltk5, ltk6, ltk7, ltk8, ltk9, *]))
  have cc6_6 : v6.cell? ⟨v4.heap.size, 0, none⟩ = some (.int .i64 b1) := (hb6.cell (p := ⟨v4.heap.size, 0, none⟩) (by first | omega | (simp [ext_size]; try omega))).trans (by (simp (maxDischargeDepth := 8) [go_sem, World.cell?_alloc_past, ltk2, ltk3, ltk4, ltk5, ltk6, ltk7, ltk8, ltk9, *]))
  have cc6_7 : v6.cell? ⟨v4.heap.size, 1, none⟩ = some (.int .i64 b2) := (hb6.cell (p := ⟨v4.heap.size, 1, none⟩) (by first | omega | (simp [ext_size]; try omega))).trans (by (simp (maxDischargeDepth := 8) [go_sem, World.cell?_alloc_past, ltk2, ltk3, ltk4, ltk5, ltk6, ltk7, ltk8, ltk9, *]))
  have cc6_8 : v6.cell? ⟨v4.heap.size + 1, 0, none⟩ = some (.int .i64 b3) := (hb6.cell (p := ⟨v4.heap.size + 1, 0, none⟩) (by first | omega | (simp [ext_size]; try omega))).trans (by (simp (maxDischargeDepth := 8) [go_sem, World.cell?_alloc_past, ltk2, ltk3, ltk4, ltk5, ltk6, ltk7, ltk8, ltk9, *]))
  have cc6_9 : v6.cell? ⟨v4.heap.size + 1, 1, none⟩ = some (.int .i64 b4) := (hb6.cell (p := ⟨v4.heap.size + 1, 1, none⟩) (by first | omega | (simp [ext_size]; try omega))).trans (by (simp (maxDischargeDepth := 8) [go_sem, World.cell?_alloc_past, ltk2, ltk3, ltk4, ltk5, ltk6, ltk7, ltk8, ltk9, *]))
  have cc6_10 : v6.cell? ⟨v5.heap.size, 0, none⟩ = some (.int .i64 c1) := (hb6.cell (p := ⟨v5.heap.size, 0, none⟩) (by first | omega | (simp [ext_size]; try omega))).trans (by (simp (maxDischargeDepth := 8) [go_sem, World.cell?_alloc_past, ltk2, ltk3, ltk4, ltk5, ltk6, ltk7, ltk8, ltk9, *]))
  have cc6_11 : v6.cell? ⟨v5.heap.size, 1, none⟩ = some (.int .i64 c2) := (hb6.cell (p := ⟨v5.heap.size, 1, none⟩) (by first | omega | (simp [ext_size]; try omega))).trans (by (simp (maxDischargeDepth := 8) [go_sem, World.cell?_alloc_past, ltk2, ltk3, ltk4, ltk5, ltk6, ltk7, ltk8, ltk9, *]))
  have cf6_0 : v6.frozen? ⟨w.heap.size + 1 + 1, 0, none⟩ = false := (hb6.frozen (p := ⟨w.heap.size + 1 + 1, 0, none⟩) (by first | omega | (simp [ext_size]; try omega))).trans (by (simp (maxDischargeDepth := 8) [go_sem, World.cell?_alloc_past, ltk2, ltk3, ltk4, ltk5, ltk6, ltk7, ltk8, ltk9, *]))
  have cf6_1 : v6.frozen? ⟨w.heap.size + 1 + 1, 1, none⟩ = false := (hb6.frozen (p := ⟨w.heap.size + 1 + 1, 1, none⟩) (by first | omega | (simp [ext_size]; try omega))).trans (by (simp (maxDischargeDepth := 8) [go_sem, World.cell?_alloc_past, ltk2, ltk3, ltk4, ltk5, ltk6, ltk7, ltk8, ltk9, *]))
  have zl6_0 : w.heap.size + 1 + 1 < v6.heap.size := by omega
  have zl6_1 : v3.heap.size < v6.heap.size := by omega
  have zl6_2 : v3.heap.size + 1 < v6.heap.size := by omega
  have zl6_3 : v4.heap.size < v6.heap.size := by omega
  have zl6_4 : v4.heap.size + 1 < v6.heap.size := by omega
  have zl6_5 : v5.heap.size < v6.heap.size := by omega
  have hB6 : Below w.heap.size w v6 := Below.trans (by (repeat (first | with_reducible exact hB5 | (with_reducible refine bext ?_ _ _) | (with_reducible refine below_drewN ?_ _) | (with_reducible refine Below.drew ?_) | (with_reducible refine bal ?_ _) | (with_reducible refine bset ?_ (by first | omega | (simp <;> omega)) _)))) (hb6.mono (by first | omega | (simp [ext_size]; try omega)))
  have zw6 := hB6.size
  clear hb6
  clear cc5_0 cc5_1 cc5_2 cc5_3 cc5_4 cc5_5 cc5_6 cc5_7 cc5_8 cc5_9 cc5_10 cc5_11 cc5_12 cc5_13 cc5_14 cc5_15 cf5_0 cf5_1 zl5_0 zl5_1 zl5_2 zl5_3 zl5_4 zl5_5 zl5_6 zz5 zw5 hB5
  go_wp2_with fail
  with_reducible refine (A7 _ _ _ ?hg ?hc).mono ?_
  case hg => (simp; try omega)
  case hc =>
    refine cases8 ?_ ?_ ?_ ?_ ?_ ?_ ?_ ?_ <;> (try dsimp only [pick]) <;> (simp (maxDischargeDepth := 8) [go_sem, World.cell?_alloc_past, ltk2, ltk3, ltk4, ltk5, ltk6, ltk7, ltk8, ltk9, *])
  have zm : w.heap.size + 1 + 1 < v6.heap.size + 1 := by omega
  rintro _ v7 ⟨rfl, hb7⟩
  have zz7 := hb7.size
  try simp [ext_size] at zz7
  have cc7_0 : v7.cell? ⟨w.heap.size + 1 + 1, 0, none⟩ = some (.int .i64 0) := (hb7.cell (p := ⟨w.heap.size + 1 + 1, 0, none⟩) (by first | omega | (simp [ext_size]; try omega))).trans (by (simp (maxDischargeDepth := 8) [go_sem, World.cell?_alloc_past, ltk2, ltk3, ltk4, ltk5, ltk6, ltk7, ltk8, ltk9, *]))
  have cc7_1 : v7.cell? ⟨w.heap.size + 1 + 1, 1, none⟩ = some (.int .i64 0) := (hb7.cell (p := ⟨w.heap.size + 1 + 1, 1, none⟩) (by first | omega | (simp [ext_size]; try omega))).trans (by (simp (maxDischargeDepth := 8) [go_sem, World.cell?_alloc_past, ltk2, ltk3, ltk4, ltk5, ltk6, ltk7, ltk8, ltk9, *]))
  have cf7_0 : v7.frozen? ⟨w.heap.size + 1 + 1, 0, none⟩ = false := (hb7.frozen (p := ⟨w.heap.size + 1 + 1, 0, none⟩) (by first | omega | (simp [ext_size]; try omega))).trans (by (simp (maxDischargeDepth := 8) [go_sem, World.cell?_alloc_past, ltk2, ltk3, ltk4, ltk5, ltk6, ltk7, ltk8, ltk9, *]))
  have cf7_1 : v7.frozen? ⟨w.heap.size + 1 + 1, 1, none⟩ = false := (hb7.frozen (p := ⟨w.heap.size + 1 + 1, 1, none⟩) (by first | omega | (simp [ext_size]; try omega))).trans (by (simp (maxDischargeDepth := 8) [go_sem, World.cell?_alloc_past, ltk2, ltk3, ltk4, ltk5, ltk6, ltk7, ltk8, ltk9, *]))
  have zl7_0 : w.heap.size + 1 + 1 < v7.heap.size := by omega
  have hB7 : Below w.heap.size w v7 := Below.trans (by (repeat (first | with_reducible exact hB6 | (with_reducible refine bext ?_ _ _) | (with_reducible refine below_drewN ?_ _) | (with_reducible refine Below.drew ?_) | (with_reducible refine bal ?_ _) | (with_reducible refine bset ?_ (by first | omega | (simp <;> omega)) _)))) (hb7.mono (by first | omega | (simp [ext_size]; try omega)))
  have zw7 := hB7.size
  clear hb7
  clear dAl dSt xC xF xS xN xD xL xE xG xX xL1 xL2 xL3 xM0 xM1 xM2 A1 A2 A3 A4 A5 A6 A7 cc6_0 cc6_1 cc6_2 cc6_3 cc6_4 cc6_5 cc6_6 cc6_7 cc6_8 cc6_9 cc6_10 cc6_11 cf6_0 cf6_1 zl6_0 zl6_1 zl6_2 zl6_3 zl6_4 zl6_5 zz6 zw6 hB6
  go_wp2
  refine bodyPost_ret (by simp [results, Try.results15, go_sem, ext_cell, World.cell?_alloc_past, ltk2, ltk3, ltk4, ltk5, ltk6, ltk7, ltk8, ltk9, *]; try rfl) rfl ?_
  exact ⟨rfl, by (repeat (first | with_reducible exact hB7 | (with_reducible refine bext ?_ _ _) | (with_reducible refine below_drewN ?_ _) | (with_reducible refine Below.drew ?_) | (with_reducible refine bal ?_ _) | (with_reducible refine bset ?_ (by first | omega | (simp <;> omega)) _)))⟩
end Go.Proofs.Ytmjbeplcabomdaa
