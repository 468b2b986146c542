/-
  The reference of track: directions.
-/
import Derived.Test.YtmjbeplcabomdaaPk
import Derived.Test.YtmjbeplcabomdaaTg
import Derived.Test.YtmjbeplcabomdaaSc
namespace Go.Proofs.Ytmjbeplcabomdaa
open Go.RowKit
set_option linter.unusedVariables false
set_option linter.unusedSimpArgs false

set_option maxRecDepth 100000 in
set_option maxHeartbeats 800000 in
theorem ref6_sines (k : Int) (w : World) :
    Calls Try.prog 57 #[.int .i64 k] w fun e w' => e = .returned (.tuple #[.agg #[.int .i64 (cL k), .int .i64 (cH k)], .agg #[.int .i64 (sL k), .int .i64 (sH k)]]) ∧ Below w.heap.size w w' := by
  obtain ⟨q1, q2, q3, q4, q5⟩ := co720 k
  have A1 := fun w => ref5_Cos k 720 w
  have A2 := fun w => ref5_Sin k 720 w
  rw [q1, q2, q5] at A1
  rw [q3, q4, q5] at A2
  clear q1 q2 q3 q4 q5
  generalize cL k = x1 at *
  generalize cH k = x2 at *
  generalize sL k = x3 at *
  generalize sH k = x4 at *
  have dAl := dAl; have dSt := dSt; have xC := ext_cell; have xF := ext_frozen; have xS := ext_set; have xN := ext_drewN; have xD := ext_drew; have xL := ext_lt; have xE := ext_ne; have xG := ext_nr; have xX := ext_ext; have xL1 := ext_lt1; have xL2 := ext_lt2; have xL3 := ext_lt3; have xM0 := ext_le0; have xM1 := ext_le1; have xM2 := ext_le2
  go_enter Try.func57, Try.ntmps57
  go_wp2_with fail
  with_reducible refine (A1 _).mono ?_
  rintro e v1 ⟨rfl, hb1⟩
  have zz1 := hb1.size
  try simp [ext_size] at zz1
  have cc1_0 : v1.cell? ⟨w.heap.size, 0, none⟩ = some (.int .i64 0) := (hb1.cell (p := ⟨w.heap.size, 0, none⟩) (by first | omega | (simp [ext_size]; try omega))).trans (by (simp (maxDischargeDepth := 8) [go_sem, World.cell?_alloc_past, ltk2, ltk3, ltk4, ltk5, ltk6, ltk7, ltk8, ltk9, *]))
  have cc1_1 : v1.cell? ⟨w.heap.size, 1, none⟩ = some (.int .i64 0) := (hb1.cell (p := ⟨w.heap.size, 1, none⟩) (by first | omega | (simp [ext_size]; try omega))).trans (by (simp (maxDischargeDepth := 8) [go_sem, World.cell?_alloc_past, ltk2, ltk3, ltk4, ltk5, ltk6, ltk7, ltk8, ltk9, *]))
  have cc1_2 : v1.cell? ⟨w.heap.size + 1, 0, none⟩ = some (.int .i64 0) := (hb1.cell (p := ⟨w.heap.size + 1, 0, none⟩) (by first | omega | (simp [ext_size]; try omega))).trans (by (simp (maxDischargeDepth := 8) [go_sem, World.cell?_alloc_past, ltk2, ltk3, ltk4, ltk5, ltk6, ltk7, ltk8, ltk9, *]))
  have cc1_3 : v1.cell? ⟨w.heap.size + 1, 1, none⟩ = some (.int .i64 0) := (hb1.cell (p := ⟨w.heap.size + 1, 1, none⟩) (by first | omega | (simp [ext_size]; try omega))).trans (by (simp (maxDischargeDepth := 8) [go_sem, World.cell?_alloc_past, ltk2, ltk3, ltk4, ltk5, ltk6, ltk7, ltk8, ltk9, *]))
  have cf1_0 : v1.frozen? ⟨w.heap.size, 0, none⟩ = false := (hb1.frozen (p := ⟨w.heap.size, 0, none⟩) (by first | omega | (simp [ext_size]; try omega))).trans (by (simp (maxDischargeDepth := 8) [go_sem, World.cell?_alloc_past, ltk2, ltk3, ltk4, ltk5, ltk6, ltk7, ltk8, ltk9, *]))
  have cf1_1 : v1.frozen? ⟨w.heap.size, 1, none⟩ = false := (hb1.frozen (p := ⟨w.heap.size, 1, none⟩) (by first | omega | (simp [ext_size]; try omega))).trans (by (simp (maxDischargeDepth := 8) [go_sem, World.cell?_alloc_past, ltk2, ltk3, ltk4, ltk5, ltk6, ltk7, ltk8, ltk9, *]))
  have cf1_2 : v1.frozen? ⟨w.heap.size + 1, 0, none⟩ = false := (hb1.frozen (p := ⟨w.heap.size + 1, 0, none⟩) (by first | omega | (simp [ext_size]; try omega))).trans (by (simp (maxDischargeDepth := 8) [go_sem, World.cell?_alloc_past, ltk2, ltk3, ltk4, ltk5, ltk6, ltk7, ltk8, ltk9, *]))
  have cf1_3 : v1.frozen? ⟨w.heap.size + 1, 1, none⟩ = false := (hb1.frozen (p := ⟨w.heap.size + 1, 1, none⟩) (by first | omega | (simp [ext_size]; try omega))).trans (by (simp (maxDischargeDepth := 8) [go_sem, World.cell?_alloc_past, ltk2, ltk3, ltk4, ltk5, ltk6, ltk7, ltk8, ltk9, *]))
  have zl1_0 : w.heap.size < v1.heap.size := by omega
  have zl1_1 : w.heap.size + 1 < v1.heap.size := by omega
  have hB1 : Below w.heap.size w v1 := Below.trans (by (repeat (first | with_reducible exact b0 _ | (with_reducible refine bext ?_ _ _) | (with_reducible refine below_drewN ?_ _) | (with_reducible refine Below.drew ?_) | (with_reducible refine bal ?_ _)))) (hb1.mono (by first | omega | (simp [ext_size]; try omega)))
  have zw1 := hB1.size
  clear hb1
  have dA0 : w.heap.size + 1 < v1.heap.size := by omega
  go_wp2_with fail
  with_reducible refine (A2 _).mono ?_
  rintro e v2 ⟨rfl, hb2⟩
  have zz2 := hb2.size
  try simp [ext_size] at zz2
  have cc2_0 : v2.cell? ⟨w.heap.size, 0, none⟩ = some (.int .i64 0) := (hb2.cell (p := ⟨w.heap.size, 0, none⟩) (by first | omega | (simp [ext_size]; try omega))).trans (by (simp (maxDischargeDepth := 8) [go_sem, World.cell?_alloc_past, ltk2, ltk3, ltk4, ltk5, ltk6, ltk7, ltk8, ltk9, *]))
  have cc2_1 : v2.cell? ⟨w.heap.size, 1, none⟩ = some (.int .i64 0) := (hb2.cell (p := ⟨w.heap.size, 1, none⟩) (by first | omega | (simp [ext_size]; try omega))).trans (by (simp (maxDischargeDepth := 8) [go_sem, World.cell?_alloc_past, ltk2, ltk3, ltk4, ltk5, ltk6, ltk7, ltk8, ltk9, *]))
  have cc2_2 : v2.cell? ⟨w.heap.size + 1, 0, none⟩ = some (.int .i64 0) := (hb2.cell (p := ⟨w.heap.size + 1, 0, none⟩) (by first | omega | (simp [ext_size]; try omega))).trans (by (simp (maxDischargeDepth := 8) [go_sem, World.cell?_alloc_past, ltk2, ltk3, ltk4, ltk5, ltk6, ltk7, ltk8, ltk9, *]))
  have cc2_3 : v2.cell? ⟨w.heap.size + 1, 1, none⟩ = some (.int .i64 0) := (hb2.cell (p := ⟨w.heap.size + 1, 1, none⟩) (by first | omega | (simp [ext_size]; try omega))).trans (by (simp (maxDischargeDepth := 8) [go_sem, World.cell?_alloc_past, ltk2, ltk3, ltk4, ltk5, ltk6, ltk7, ltk8, ltk9, *]))
  have cc2_4 : v2.cell? ⟨v1.heap.size, 0, none⟩ = some (.int .i64 x1) := (hb2.cell (p := ⟨v1.heap.size, 0, none⟩) (by first | omega | (simp [ext_size]; try omega))).trans (by (simp (maxDischargeDepth := 8) [go_sem, World.cell?_alloc_past, ltk2, ltk3, ltk4, ltk5, ltk6, ltk7, ltk8, ltk9, *]))
  have cc2_5 : v2.cell? ⟨v1.heap.size, 1, none⟩ = some (.int .i64 x2) := (hb2.cell (p := ⟨v1.heap.size, 1, none⟩) (by first | omega | (simp [ext_size]; try omega))).trans (by (simp (maxDischargeDepth := 8) [go_sem, World.cell?_alloc_past, ltk2, ltk3, ltk4, ltk5, ltk6, ltk7, ltk8, ltk9, *]))
  have cf2_0 : v2.frozen? ⟨w.heap.size, 0, none⟩ = false := (hb2.frozen (p := ⟨w.heap.size, 0, none⟩) (by first | omega | (simp [ext_size]; try omega))).trans (by (simp (maxDischargeDepth := 8) [go_sem, World.cell?_alloc_past, ltk2, ltk3, ltk4, ltk5, ltk6, ltk7, ltk8, ltk9, *]))
  have cf2_1 : v2.frozen? ⟨w.heap.size, 1, none⟩ = false := (hb2.frozen (p := ⟨w.heap.size, 1, none⟩) (by first | omega | (simp [ext_size]; try omega))).trans (by (simp (maxDischargeDepth := 8) [go_sem, World.cell?_alloc_past, ltk2, ltk3, ltk4, ltk5, ltk6, ltk7, ltk8, ltk9, *]))
  have cf2_2 : v2.frozen? ⟨w.heap.size + 1, 0, none⟩ = false := (hb2.frozen (p := ⟨w.heap.size + 1, 0, none⟩) (by first | omega | (simp [ext_size]; try omega))).trans (by (simp (maxDischargeDepth := 8) [go_sem, World.cell?_alloc_past, ltk2, ltk3, ltk4, ltk5, ltk6, ltk7, ltk8, ltk9, *]))
  have cf2_3 : v2.frozen? ⟨w.heap.size + 1, 1, none⟩ = false := (hb2.frozen (p := ⟨w.heap.size + 1, 1, none⟩) (by first | omega | (simp [ext_size]; try omega))).trans (by (simp (maxDischargeDepth := 8) [go_sem, World.cell?_alloc_past, ltk2, ltk3, ltk4, ltk5, ltk6, ltk7, ltk8, ltk9, *]))
  have zl2_0 : w.heap.size < v2.heap.size := by omega
  have zl2_1 : w.heap.size + 1 < v2.heap.size := by omega
  have zl2_2 : v1.heap.size < v2.heap.size := by omega
  have hB2 : Below w.heap.size w v2 := Below.trans (by (repeat (first | with_reducible exact hB1 | (with_reducible refine bext ?_ _ _) | (with_reducible refine below_drewN ?_ _) | (with_reducible refine Below.drew ?_) | (with_reducible refine bal ?_ _) | (with_reducible refine bset ?_ (by first | omega | (simp <;> omega)) _)))) (hb2.mono (by first | omega | (simp [ext_size]; try omega)))
  have zw2 := hB2.size
  clear hb2
  clear cc1_0 cc1_1 cc1_2 cc1_3 cf1_0 cf1_1 cf1_2 cf1_3 zl1_0 zl1_1 zz1 zw1 hB1
  have dB0 : w.heap.size + 1 < v2.heap.size := by omega
  go_upto_region 3 with fail
  refine opq (fun wx => wx.cell? ⟨w.heap.size, 0, none⟩ = some (.int .i64 0) ∧ wx.cell? ⟨w.heap.size, 1, none⟩ = some (.int .i64 0) ∧ wx.cell? ⟨w.heap.size + 1, 0, none⟩ = some (.int .i64 0) ∧ wx.cell? ⟨w.heap.size + 1, 1, none⟩ = some (.int .i64 0) ∧ wx.cell? ⟨v1.heap.size, 0, none⟩ = some (.int .i64 x1) ∧ wx.cell? ⟨v1.heap.size, 1, none⟩ = some (.int .i64 x2) ∧ wx.cell? ⟨v2.heap.size, 0, none⟩ = some (.int .i64 x3) ∧ wx.cell? ⟨v2.heap.size, 1, none⟩ = some (.int .i64 x4) ∧ wx.frozen? ⟨w.heap.size, 0, none⟩ = false ∧ wx.frozen? ⟨w.heap.size, 1, none⟩ = false ∧ wx.frozen? ⟨w.heap.size + 1, 0, none⟩ = false ∧ wx.frozen? ⟨w.heap.size + 1, 1, none⟩ = false ∧ w.heap.size < wx.heap.size ∧ w.heap.size + 1 < wx.heap.size ∧ v1.heap.size < wx.heap.size ∧ v2.heap.size < wx.heap.size ∧ Below w.heap.size w wx) ?_ ?_
  · exact ⟨by first | assumption | (simp (maxDischargeDepth := 8) [go_sem, World.cell?_alloc_past, ltk2, ltk3, ltk4, ltk5, ltk6, ltk7, ltk8, ltk9, *]), by first | assumption | (simp (maxDischargeDepth := 8) [go_sem, World.cell?_alloc_past, ltk2, ltk3, ltk4, ltk5, ltk6, ltk7, ltk8, ltk9, *]), by first | assumption | (simp (maxDischargeDepth := 8) [go_sem, World.cell?_alloc_past, ltk2, ltk3, ltk4, ltk5, ltk6, ltk7, ltk8, ltk9, *]), by first | assumption | (simp (maxDischargeDepth := 8) [go_sem, World.cell?_alloc_past, ltk2, ltk3, ltk4, ltk5, ltk6, ltk7, ltk8, ltk9, *]), by first | assumption | (simp (maxDischargeDepth := 8) [go_sem, World.cell?_alloc_past, ltk2, ltk3, ltk4, ltk5, ltk6, ltk7, ltk8, ltk9, *]), by first | assumption | (simp (maxDischargeDepth := 8) [go_sem, World.cell?_alloc_past, ltk2, ltk3, ltk4, ltk5, ltk6, ltk7, ltk8, ltk9, *]), by first | assumption | (simp (maxDischargeDepth := 8) [go_sem, World.cell?_alloc_past, ltk2, ltk3, ltk4, ltk5, ltk6, ltk7, ltk8, ltk9, *]), by first | assumption | (simp (maxDischargeDepth := 8) [go_sem, World.cell?_alloc_past, ltk2, ltk3, ltk4, ltk5, ltk6, ltk7, ltk8, ltk9, *]), by first | assumption | (simp (maxDischargeDepth := 8) [go_sem, World.cell?_alloc_past, ltk2, ltk3, ltk4, ltk5, ltk6, ltk7, ltk8, ltk9, *]), by first | assumption | (simp (maxDischargeDepth := 8) [go_sem, World.cell?_alloc_past, ltk2, ltk3, ltk4, ltk5, ltk6, ltk7, ltk8, ltk9, *]), by first | assumption | (simp (maxDischargeDepth := 8) [go_sem, World.cell?_alloc_past, ltk2, ltk3, ltk4, ltk5, ltk6, ltk7, ltk8, ltk9, *]), by first | assumption | (simp (maxDischargeDepth := 8) [go_sem, World.cell?_alloc_past, ltk2, ltk3, ltk4, ltk5, ltk6, ltk7, ltk8, ltk9, *]), by first | assumption | omega | (simp [ext_size]; try omega), by first | assumption | omega | (simp [ext_size]; try omega), by first | assumption | omega | (simp [ext_size]; try omega), by first | assumption | omega | (simp [ext_size]; try omega), by (repeat (first | with_reducible exact hB2 | (with_reducible refine bext ?_ _ _) | (with_reducible refine below_drewN ?_ _) | (with_reducible refine Below.drew ?_) | (with_reducible refine bal ?_ _) | (with_reducible refine bset ?_ (by first | omega | (simp <;> omega)) _)))⟩
  rintro wx ⟨k0, k1, k2, k3, k4, k5, k6, k7, f0, f1, f2, f3, zs0, zs1, zs2, zs3, hB⟩
  clear cc2_0 cc2_1 cc2_2 cc2_3 cc2_4 cc2_5 cf2_0 cf2_1 cf2_2 cf2_3 zl2_0 zl2_1 zl2_2 zz2 zw2 hB2 dAl dSt xC xF xS xN xD xL xE xG xX xL1 xL2 xL3 xM0 xM1 xM2 A1 A2
  have dA0a : (w.heap.size = v1.heap.size) = False := by simp; omega
  have dA0b : (w.heap.size + 1 = v1.heap.size) = False := by simp; omega
  have dA0c : (v1.heap.size = w.heap.size) = False := by simp; omega
  have dA0d : (v1.heap.size = w.heap.size + 1) = False := by simp; omega
  have dB0a : (w.heap.size = v2.heap.size) = False := by simp; omega
  have dB0b : (w.heap.size + 1 = v2.heap.size) = False := by simp; omega
  have dB0c : (v2.heap.size = w.heap.size) = False := by simp; omega
  have dB0d : (v2.heap.size = w.heap.size + 1) = False := by simp; omega
  go_region
  all_goals go_wp2
  all_goals refine bodyPost_ret (by simp [results, Try.results57, go_sem, ext_cell, World.cell?_alloc_past, ltk2, ltk3, ltk4, ltk5, ltk6, ltk7, ltk8, ltk9, *]; try rfl) rfl ?_
  all_goals exact ⟨rfl, by (repeat (first | with_reducible exact hB | (with_reducible refine bext ?_ _ _) | (with_reducible refine below_drewN ?_ _) | (with_reducible refine Below.drew ?_) | (with_reducible refine bal ?_ _) | (with_reducible refine bset ?_ (by first | omega | (simp <;> omega)) _)))⟩

set_option maxRecDepth 100000 in
set_option maxHeartbeats 1600000 in
theorem ref6_Direction (s : ByteArray) (ra dec t : Int) (a1 : -9223372036854775808 ≤ ra - t) (a2 : ra - t ≤ 9223372036854775807) (w : World) :
    Calls Try.prog 39 #[.agg #[.string s, .int .i64 ra, .int .i64 dec], .int .i64 t] w fun e w' => e = .returned (.agg #[.int .i64 (dxL dec (ra - t)), .int .i64 (dxH dec (ra - t)), .int .i64 (dyL dec (ra - t)), .int .i64 (dyH dec (ra - t)), .int .i64 (sL dec), .int .i64 (sH dec)]) ∧ Below w.heap.size w w' := by
  have A1 := fun w => ref6_sines dec w
  have A2 := fun w => ref6_sines (ra - t) w
  have A3 := fun w => ref5_Mul (cL dec) (cH dec) (cL (ra - t)) (cH (ra - t)) w
  have A4 := fun w => ref5_Mul (cL dec) (cH dec) (sL (ra - t)) (sH (ra - t)) w
  unfold dxL dxH dyL dyH
  generalize smL (cL dec) (cH dec) (cL (ra - t)) (cH (ra - t)) = y1 at *
  generalize smH (cL dec) (cH dec) (cL (ra - t)) (cH (ra - t)) = y2 at *
  generalize smE (cL dec) (cH dec) (cL (ra - t)) (cH (ra - t)) = y3 at *
  generalize smL (cL dec) (cH dec) (sL (ra - t)) (sH (ra - t)) = y4 at *
  generalize smH (cL dec) (cH dec) (sL (ra - t)) (sH (ra - t)) = y5 at *
  generalize smE (cL dec) (cH dec) (sL (ra - t)) (sH (ra - t)) = y6 at *
  generalize cL (ra - t) = x1 at *
  generalize cH (ra - t) = x2 at *
  generalize sL (ra - t) = x3 at *
  generalize sH (ra - t) = x4 at *
  generalize cL dec = z1 at *
  generalize cH dec = z2 at *
  generalize sL dec = z3 at *
  generalize sH dec = z4 at *
  have dAl := dAl; have dSt := dSt; have xC := ext_cell; have xF := ext_frozen; have xS := ext_set; have xN := ext_drewN; have xD := ext_drew; have xL := ext_lt; have xE := ext_ne; have xG := ext_nr; have xX := ext_ext; have xL1 := ext_lt1; have xL2 := ext_lt2; have xL3 := ext_lt3; have xM0 := ext_le0; have xM1 := ext_le1; have xM2 := ext_le2
  go_enter Try.func39, Try.ntmps39
  go_wp2_with fail
  with_reducible refine (A1 _).mono ?_
  rintro e v1 ⟨rfl, hb1⟩
  have zz1 := hb1.size
  try simp [ext_size] at zz1
  have cc1_0 : v1.cell? ⟨w.heap.size, 0, none⟩ = some (.string s) := (hb1.cell (p := ⟨w.heap.size, 0, none⟩) (by first | omega | (simp [ext_size]; try omega))).trans (by (simp (maxDischargeDepth := 8) [go_sem, World.cell?_alloc_past, ltk2, ltk3, ltk4, ltk5, ltk6, ltk7, ltk8, ltk9, *]))
  have cc1_1 : v1.cell? ⟨w.heap.size, 1, none⟩ = some (.int .i64 ra) := (hb1.cell (p := ⟨w.heap.size, 1, none⟩) (by first | omega | (simp [ext_size]; try omega))).trans (by (simp (maxDischargeDepth := 8) [go_sem, World.cell?_alloc_past, ltk2, ltk3, ltk4, ltk5, ltk6, ltk7, ltk8, ltk9, *]))
  have cc1_2 : v1.cell? ⟨w.heap.size, 2, none⟩ = some (.int .i64 dec) := (hb1.cell (p := ⟨w.heap.size, 2, none⟩) (by first | omega | (simp [ext_size]; try omega))).trans (by (simp (maxDischargeDepth := 8) [go_sem, World.cell?_alloc_past, ltk2, ltk3, ltk4, ltk5, ltk6, ltk7, ltk8, ltk9, *]))
  have cc1_3 : v1.cell? ⟨w.heap.size + 1, 0, none⟩ = some (.int .i64 0) := (hb1.cell (p := ⟨w.heap.size + 1, 0, none⟩) (by first | omega | (simp [ext_size]; try omega))).trans (by (simp (maxDischargeDepth := 8) [go_sem, World.cell?_alloc_past, ltk2, ltk3, ltk4, ltk5, ltk6, ltk7, ltk8, ltk9, *]))
  have cc1_4 : v1.cell? ⟨w.heap.size + 1, 1, none⟩ = some (.int .i64 0) := (hb1.cell (p := ⟨w.heap.size + 1, 1, none⟩) (by first | omega | (simp [ext_size]; try omega))).trans (by (simp (maxDischargeDepth := 8) [go_sem, World.cell?_alloc_past, ltk2, ltk3, ltk4, ltk5, ltk6, ltk7, ltk8, ltk9, *]))
  have cc1_5 : v1.cell? ⟨w.heap.size + 1, 2, none⟩ = some (.int .i64 0) := (hb1.cell (p := ⟨w.heap.size + 1, 2, none⟩) (by first | omega | (simp [ext_size]; try omega))).trans (by (simp (maxDischargeDepth := 8) [go_sem, World.cell?_alloc_past, ltk2, ltk3, ltk4, ltk5, ltk6, ltk7, ltk8, ltk9, *]))
  have cc1_6 : v1.cell? ⟨w.heap.size + 1, 3, none⟩ = some (.int .i64 0) := (hb1.cell (p := ⟨w.heap.size + 1, 3, none⟩) (by first | omega | (simp [ext_size]; try omega))).trans (by (simp (maxDischargeDepth := 8) [go_sem, World.cell?_alloc_past, ltk2, ltk3, ltk4, ltk5, ltk6, ltk7, ltk8, ltk9, *]))
  have cc1_7 : v1.cell? ⟨w.heap.size + 1, 4, none⟩ = some (.int .i64 0) := (hb1.cell (p := ⟨w.heap.size + 1, 4, none⟩) (by first | omega | (simp [ext_size]; try omega))).trans (by (simp (maxDischargeDepth := 8) [go_sem, World.cell?_alloc_past, ltk2, ltk3, ltk4, ltk5, ltk6, ltk7, ltk8, ltk9, *]))
  have cc1_8 : v1.cell? ⟨w.heap.size + 1, 5, none⟩ = some (.int .i64 0) := (hb1.cell (p := ⟨w.heap.size + 1, 5, none⟩) (by first | omega | (simp [ext_size]; try omega))).trans (by (simp (maxDischargeDepth := 8) [go_sem, World.cell?_alloc_past, ltk2, ltk3, ltk4, ltk5, ltk6, ltk7, ltk8, ltk9, *]))
  have cf1_0 : v1.frozen? ⟨w.heap.size + 1, 0, none⟩ = false := (hb1.frozen (p := ⟨w.heap.size + 1, 0, none⟩) (by first | omega | (simp [ext_size]; try omega))).trans (by (simp (maxDischargeDepth := 8) [go_sem, World.cell?_alloc_past, ltk2, ltk3, ltk4, ltk5, ltk6, ltk7, ltk8, ltk9, *]))
  have cf1_1 : v1.frozen? ⟨w.heap.size + 1, 1, none⟩ = false := (hb1.frozen (p := ⟨w.heap.size + 1, 1, none⟩) (by first | omega | (simp [ext_size]; try omega))).trans (by (simp (maxDischargeDepth := 8) [go_sem, World.cell?_alloc_past, ltk2, ltk3, ltk4, ltk5, ltk6, ltk7, ltk8, ltk9, *]))
  have cf1_2 : v1.frozen? ⟨w.heap.size + 1, 2, none⟩ = false := (hb1.frozen (p := ⟨w.heap.size + 1, 2, none⟩) (by first | omega | (simp [ext_size]; try omega))).trans (by (simp (maxDischargeDepth := 8) [go_sem, World.cell?_alloc_past, ltk2, ltk3, ltk4, ltk5, ltk6, ltk7, ltk8, ltk9, *]))
  have cf1_3 : v1.frozen? ⟨w.heap.size + 1, 3, none⟩ = false := (hb1.frozen (p := ⟨w.heap.size + 1, 3, none⟩) (by first | omega | (simp [ext_size]; try omega))).trans (by (simp (maxDischargeDepth := 8) [go_sem, World.cell?_alloc_past, ltk2, ltk3, ltk4, ltk5, ltk6, ltk7, ltk8, ltk9, *]))
  have cf1_4 : v1.frozen? ⟨w.heap.size + 1, 4, none⟩ = false := (hb1.frozen (p := ⟨w.heap.size + 1, 4, none⟩) (by first | omega | (simp [ext_size]; try omega))).trans (by (simp (maxDischargeDepth := 8) [go_sem, World.cell?_alloc_past, ltk2, ltk3, ltk4, ltk5, ltk6, ltk7, ltk8, ltk9, *]))
  have cf1_5 : v1.frozen? ⟨w.heap.size + 1, 5, none⟩ = false := (hb1.frozen (p := ⟨w.heap.size + 1, 5, none⟩) (by first | omega | (simp [ext_size]; try omega))).trans (by (simp (maxDischargeDepth := 8) [go_sem, World.cell?_alloc_past, ltk2, ltk3, ltk4, ltk5, ltk6, ltk7, ltk8, ltk9, *]))
  have zl1_0 : w.heap.size < v1.heap.size := by omega
  have zl1_1 : w.heap.size + 1 < v1.heap.size := by omega
  have hB1 : Below w.heap.size w v1 := Below.trans (by (repeat (first | with_reducible exact b0 _ | (with_reducible refine bext ?_ _ _) | (with_reducible refine below_drewN ?_ _) | (with_reducible refine Below.drew ?_) | (with_reducible refine bal ?_ _)))) (hb1.mono (by first | omega | (simp [ext_size]; try omega)))
  have zw1 := hB1.size
  clear hb1
  go_wp2_with fail
  with_reducible refine (A2 _).mono ?_
  rintro e v2 ⟨rfl, hb2⟩
  have zz2 := hb2.size
  try simp [ext_size] at zz2
  have cc2_0 : v2.cell? ⟨w.heap.size, 0, none⟩ = some (.string s) := (hb2.cell (p := ⟨w.heap.size, 0, none⟩) (by first | omega | (simp [ext_size]; try omega))).trans (by (simp (maxDischargeDepth := 8) [go_sem, World.cell?_alloc_past, ltk2, ltk3, ltk4, ltk5, ltk6, ltk7, ltk8, ltk9, *]))
  have cc2_1 : v2.cell? ⟨w.heap.size, 1, none⟩ = some (.int .i64 ra) := (hb2.cell (p := ⟨w.heap.size, 1, none⟩) (by first | omega | (simp [ext_size]; try omega))).trans (by (simp (maxDischargeDepth := 8) [go_sem, World.cell?_alloc_past, ltk2, ltk3, ltk4, ltk5, ltk6, ltk7, ltk8, ltk9, *]))
  have cc2_2 : v2.cell? ⟨w.heap.size, 2, none⟩ = some (.int .i64 dec) := (hb2.cell (p := ⟨w.heap.size, 2, none⟩) (by first | omega | (simp [ext_size]; try omega))).trans (by (simp (maxDischargeDepth := 8) [go_sem, World.cell?_alloc_past, ltk2, ltk3, ltk4, ltk5, ltk6, ltk7, ltk8, ltk9, *]))
  have cc2_3 : v2.cell? ⟨w.heap.size + 1, 0, none⟩ = some (.int .i64 0) := (hb2.cell (p := ⟨w.heap.size + 1, 0, none⟩) (by first | omega | (simp [ext_size]; try omega))).trans (by (simp (maxDischargeDepth := 8) [go_sem, World.cell?_alloc_past, ltk2, ltk3, ltk4, ltk5, ltk6, ltk7, ltk8, ltk9, *]))
  have cc2_4 : v2.cell? ⟨w.heap.size + 1, 1, none⟩ = some (.int .i64 0) := (hb2.cell (p := ⟨w.heap.size + 1, 1, none⟩) (by first | omega | (simp [ext_size]; try omega))).trans (by (simp (maxDischargeDepth := 8) [go_sem, World.cell?_alloc_past, ltk2, ltk3, ltk4, ltk5, ltk6, ltk7, ltk8, ltk9, *]))
  have cc2_5 : v2.cell? ⟨w.heap.size + 1, 2, none⟩ = some (.int .i64 0) := (hb2.cell (p := ⟨w.heap.size + 1, 2, none⟩) (by first | omega | (simp [ext_size]; try omega))).trans (by (simp (maxDischargeDepth := 8) [go_sem, World.cell?_alloc_past, ltk2, ltk3, ltk4, ltk5, ltk6, ltk7, ltk8, ltk9, *]))
  have cc2_6 : v2.cell? ⟨w.heap.size + 1, 3, none⟩ = some (.int .i64 0) := (hb2.cell (p := ⟨w.heap.size + 1, 3, none⟩) (by first | omega | (simp [ext_size]; try omega))).trans (by (simp (maxDischargeDepth := 8) [go_sem, World.cell?_alloc_past, ltk2, ltk3, ltk4, ltk5, ltk6, ltk7, ltk8, ltk9, *]))
  have cc2_7 : v2.cell? ⟨w.heap.size + 1, 4, none⟩ = some (.int .i64 0) := (hb2.cell (p := ⟨w.heap.size + 1, 4, none⟩) (by first | omega | (simp [ext_size]; try omega))).trans (by (simp (maxDischargeDepth := 8) [go_sem, World.cell?_alloc_past, ltk2, ltk3, ltk4, ltk5, ltk6, ltk7, ltk8, ltk9, *]))
  have cc2_8 : v2.cell? ⟨w.heap.size + 1, 5, none⟩ = some (.int .i64 0) := (hb2.cell (p := ⟨w.heap.size + 1, 5, none⟩) (by first | omega | (simp [ext_size]; try omega))).trans (by (simp (maxDischargeDepth := 8) [go_sem, World.cell?_alloc_past, ltk2, ltk3, ltk4, ltk5, ltk6, ltk7, ltk8, ltk9, *]))
  have cc2_9 : v2.cell? ⟨v1.heap.size, 0, none⟩ = some (.int .i64 z1) := (hb2.cell (p := ⟨v1.heap.size, 0, none⟩) (by first | omega | (simp [ext_size]; try omega))).trans (by (simp (maxDischargeDepth := 8) [go_sem, World.cell?_alloc_past, ltk2, ltk3, ltk4, ltk5, ltk6, ltk7, ltk8, ltk9, *]))
  have cc2_10 : v2.cell? ⟨v1.heap.size, 1, none⟩ = some (.int .i64 z2) := (hb2.cell (p := ⟨v1.heap.size, 1, none⟩) (by first | omega | (simp [ext_size]; try omega))).trans (by (simp (maxDischargeDepth := 8) [go_sem, World.cell?_alloc_past, ltk2, ltk3, ltk4, ltk5, ltk6, ltk7, ltk8, ltk9, *]))
  have cc2_11 : v2.cell? ⟨v1.heap.size + 1, 0, none⟩ = some (.int .i64 z3) := (hb2.cell (p := ⟨v1.heap.size + 1, 0, none⟩) (by first | omega | (simp [ext_size]; try omega))).trans (by (simp (maxDischargeDepth := 8) [go_sem, World.cell?_alloc_past, ltk2, ltk3, ltk4, ltk5, ltk6, ltk7, ltk8, ltk9, *]))
  have cc2_12 : v2.cell? ⟨v1.heap.size + 1, 1, none⟩ = some (.int .i64 z4) := (hb2.cell (p := ⟨v1.heap.size + 1, 1, none⟩) (by first | omega | (simp [ext_size]; try omega))).trans (by (simp (maxDischargeDepth := 8) [go_sem, World.cell?_alloc_past, ltk2, ltk3, ltk4, ltk5, ltk6, ltk7, ltk8, ltk9, *]))
  have cf2_0 : v2.frozen? ⟨w.heap.size + 1, 0, none⟩ = false := (hb2.frozen (p := ⟨w.heap.size + 1, 0, none⟩) (by first | omega | (simp [ext_size]; try omega))).trans (by (simp (maxDischargeDepth := 8) [go_sem, World.cell?_alloc_past, ltk2, ltk3, ltk4, ltk5, ltk6, ltk7, ltk8, ltk9, *]))
  have cf2_1 : v2.frozen? ⟨w.heap.size + 1, 1, none⟩ = false := (hb2.frozen (p := ⟨w.heap.size + 1, 1, none⟩) (by first | omega | (simp [ext_size]; try omega))).trans (by (simp (maxDischargeDepth := 8) [go_sem, World.cell?_alloc_past, ltk2, ltk3, ltk4, ltk5, ltk6, ltk7, ltk8, ltk9, *]))
  have cf2_2 : v2.frozen? ⟨w.heap.size + 1, 2, none⟩ = false := (hb2.frozen (p := ⟨w.heap.size + 1, 2, none⟩) (by first | omega | (simp [ext_size]; try omega))).trans (by (simp (maxDischargeDepth := 8) [go_sem, World.cell?_alloc_past, ltk2, ltk3, ltk4, ltk5, ltk6, ltk7, ltk8, ltk9, *]))
  have cf2_3 : v2.frozen? ⟨w.heap.size + 1, 3, none⟩ = false := (hb2.frozen (p := ⟨w.heap.size + 1, 3, none⟩) (by first | omega | (simp [ext_size]; try omega))).trans (by (simp (maxDischargeDepth := 8) [go_sem, World.cell?_alloc_past, ltk2, ltk3, ltk4, ltk5, ltk6, ltk7, ltk8, ltk9, *]))
  have cf2_4 : v2.frozen? ⟨w.heap.size + 1, 4, none⟩ = false := (hb2.frozen (p := ⟨w.heap.size + 1, 4, none⟩) (by first | omega | (simp [ext_size]; try omega))).trans (by (simp (maxDischargeDepth := 8) [go_sem, World.cell?_alloc_past, ltk2, ltk3, ltk4, ltk5, ltk6, ltk7, ltk8, ltk9, *]))
  have cf2_5 : v2.frozen? ⟨w.heap.size + 1, 5, none⟩ = false := (hb2.frozen (p := ⟨w.heap.size + 1, 5, none⟩) (by first | omega | (simp [ext_size]; try omega))).trans (by (simp (maxDischargeDepth := 8) [go_sem, World.cell?_alloc_past, ltk2, ltk3, ltk4, ltk5, ltk6, ltk7, ltk8, ltk9, *]))
  have zl2_0 : w.heap.size < v2.heap.size := by omega
  have zl2_1 : w.heap.size + 1 < v2.heap.size := by omega
  have zl2_2 : v1.heap.size < v2.heap.size := by omega
  have zl2_3 : v1.heap.size + 1 < v2.heap.size := by omega
  have hB2 : Below w.heap.size w v2 := Below.trans (by (repeat (first | with_reducible exact hB1 | (with_reducible refine bext ?_ _ _) | (with_reducible refine below_drewN ?_ _) | (with_reducible refine Below.drew ?_) | (with_reducible refine bal ?_ _) | (with_reducible refine bset ?_ (by first | omega | (simp <;> omega)) _)))) (hb2.mono (by first | omega | (simp [ext_size]; try omega)))
  have zw2 := hB2.size
  clear hb2
  clear cc1_0 cc1_1 cc1_2 cc1_3 cc1_4 cc1_5 cc1_6 cc1_7 cc1_8 cf1_0 cf1_1 cf1_2 cf1_3 cf1_4 cf1_5 zl1_0 zl1_1 zz1 zw1 hB1
  go_wp2_with fail
  with_reducible refine (A3 _).mono ?_
  rintro e v3 ⟨rfl, hb3⟩
  have zz3 := hb3.size
  try simp [ext_size] at zz3
  have cc3_0 : v3.cell? ⟨w.heap.size + 1, 0, none⟩ = some (.int .i64 0) := (hb3.cell (p := ⟨w.heap.size + 1, 0, none⟩) (by first | omega | (simp [ext_size]; try omega))).trans (by (simp (maxDischargeDepth := 8) [go_sem, World.cell?_alloc_past, ltk2, ltk3, ltk4, ltk5, ltk6, ltk7, ltk8, ltk9, *]))
  have cc3_1 : v3.cell? ⟨w.heap.size + 1, 1, none⟩ = some (.int .i64 0) := (hb3.cell (p := ⟨w.heap.size + 1, 1, none⟩) (by first | omega | (simp [ext_size]; try omega))).trans (by (simp (maxDischargeDepth := 8) [go_sem, World.cell?_alloc_past, ltk2, ltk3, ltk4, ltk5, ltk6, ltk7, ltk8, ltk9, *]))
  have cc3_2 : v3.cell? ⟨w.heap.size + 1, 2, none⟩ = some (.int .i64 0) := (hb3.cell (p := ⟨w.heap.size + 1, 2, none⟩) (by first | omega | (simp [ext_size]; try omega))).trans (by (simp (maxDischargeDepth := 8) [go_sem, World.cell?_alloc_past, ltk2, ltk3, ltk4, ltk5, ltk6, ltk7, ltk8, ltk9, *]))
  have cc3_3 : v3.cell? ⟨w.heap.size + 1, 3, none⟩ = some (.int .i64 0) := (hb3.cell (p := ⟨w.heap.size + 1, 3, none⟩) (by first | omega | (simp [ext_size]; try omega))).trans (by (simp (maxDischargeDepth := 8) [go_sem, World.cell?_alloc_past, ltk2, ltk3, ltk4, ltk5, ltk6, ltk7, ltk8, ltk9, *]))
  have cc3_4 : v3.cell? ⟨w.heap.size + 1, 4, none⟩ = some (.int .i64 0) := (hb3.cell (p := ⟨w.heap.size + 1, 4, none⟩) (by first | omega | (simp [ext_size]; try omega))).trans (by (simp (maxDischargeDepth := 8) [go_sem, World.cell?_alloc_past, ltk2, ltk3, ltk4, ltk5, ltk6, ltk7, ltk8, ltk9, *]))
  have cc3_5 : v3.cell? ⟨w.heap.size + 1, 5, none⟩ = some (.int .i64 0) := (hb3.cell (p := ⟨w.heap.size + 1, 5, none⟩) (by first | omega | (simp [ext_size]; try omega))).trans (by (simp (maxDischargeDepth := 8) [go_sem, World.cell?_alloc_past, ltk2, ltk3, ltk4, ltk5, ltk6, ltk7, ltk8, ltk9, *]))
  have cc3_6 : v3.cell? ⟨v1.heap.size, 0, none⟩ = some (.int .i64 z1) := (hb3.cell (p := ⟨v1.heap.size, 0, none⟩) (by first | omega | (simp [ext_size]; try omega))).trans (by (simp (maxDischargeDepth := 8) [go_sem, World.cell?_alloc_past, ltk2, ltk3, ltk4, ltk5, ltk6, ltk7, ltk8, ltk9, *]))
  have cc3_7 : v3.cell? ⟨v1.heap.size, 1, none⟩ = some (.int .i64 z2) := (hb3.cell (p := ⟨v1.heap.size, 1, none⟩) (by first | omega | (simp [ext_size]; try omega))).trans (by (simp (maxDischargeDepth := 8) [go_sem, World.cell?_alloc_past, ltk2, ltk3, ltk4, ltk5, ltk6, ltk7, ltk8, ltk9, *]))
  have cc3_8 : v3.cell? ⟨v1.heap.size + 1, 0, none⟩ = some (.int .i64 z3) := (hb3.cell (p := ⟨v1.heap.size + 1, 0, none⟩) (by first | omega | (simp [ext_size]; try omega))).trans (by (simp (maxDischargeDepth := 8) [go_sem, World.cell?_alloc_past, ltk2, ltk3, ltk4, ltk5, ltk6, ltk7, ltk8, ltk9, *]))
  have cc3_9 : v3.cell? ⟨v1.heap.size + 1, 1, none⟩ = some (.int .i64 z4) := (hb3.cell (p := ⟨v1.heap.size + 1, 1, none⟩) (by first | omega | (simp [ext_size]; try omega))).trans (by (simp (maxDischargeDepth := 8) [go_sem, World.cell?_alloc_past, ltk2, ltk3, ltk4, ltk5, ltk6, ltk7, ltk8, ltk9, *]))
  have cc3_10 : v3.cell? ⟨v2.heap.size, 0, none⟩ = some (.int .i64 x1) := (hb3.cell (p := ⟨v2.heap.size, 0, none⟩) (by first | omega | (simp [ext_size]; try omega))).trans (by (simp (maxDischargeDepth := 8) [go_sem, World.cell?_alloc_past, ltk2, ltk3, ltk4, ltk5, ltk6, ltk7, ltk8, ltk9, *]))
  have cc3_11 : v3.cell? ⟨v2.heap.size, 1, none⟩ = some (.int .i64 x2) := (hb3.cell (p := ⟨v2.heap.size, 1, none⟩) (by first | omega | (simp [ext_size]; try omega))).trans (by (simp (maxDischargeDepth := 8) [go_sem, World.cell?_alloc_past, ltk2, ltk3, ltk4, ltk5, ltk6, ltk7, ltk8, ltk9, *]))
  have cc3_12 : v3.cell? ⟨v2.heap.size + 1, 0, none⟩ = some (.int .i64 x3) := (hb3.cell (p := ⟨v2.heap.size + 1, 0, none⟩) (by first | omega | (simp [ext_size]; try omega))).trans (by (simp (maxDischargeDepth := 8) [go_sem, World.cell?_alloc_past, ltk2, ltk3, ltk4, ltk5, ltk6, ltk7, ltk8, ltk9, *]))
  have cc3_13 : v3.cell? ⟨v2.heap.size + 1, 1, none⟩ = some (.int .i64 x4) := (hb3.cell (p := ⟨v2.heap.size + 1, 1, none⟩) (by first | omega | (simp [ext_size]; try omega))).trans (by (simp (maxDischargeDepth := 8) [go_sem, World.cell?_alloc_past, ltk2, ltk3, ltk4, ltk5, ltk6, ltk7, ltk8, ltk9, *]))
  have cf3_0 : v3.frozen? ⟨w.heap.size + 1, 0, none⟩ = false := (hb3.frozen (p := ⟨w.heap.size + 1, 0, none⟩) (by first | omega | (simp [ext_size]; try omega))).trans (by (simp (maxDischargeDepth := 8) [go_sem, World.cell?_alloc_past, ltk2, ltk3, ltk4, ltk5, ltk6, ltk7, ltk8, ltk9, *]))
  have cf3_1 : v3.frozen? ⟨w.heap.size + 1, 1, none⟩ = false := (hb3.frozen (p := ⟨w.heap.size + 1, 1, none⟩) (by first | omega | (simp [ext_size]; try omega))).trans (by (simp (maxDischargeDepth := 8) [go_sem, World.cell?_alloc_past, ltk2, ltk3, ltk4, ltk5, ltk6, ltk7, ltk8, ltk9, *]))
  have cf3_2 : v3.frozen? ⟨w.heap.size + 1, 2, none⟩ = false := (hb3.frozen (p := ⟨w.heap.size + 1, 2, none⟩) (by first | omega | (simp [ext_size]; try omega))).trans (by (simp (maxDischargeDepth := 8) [go_sem, World.cell?_alloc_past, ltk2, ltk3, ltk4, ltk5, ltk6, ltk7, ltk8, ltk9, *]))
  have cf3_3 : v3.frozen? ⟨w.heap.size + 1, 3, none⟩ = false := (hb3.frozen (p := ⟨w.heap.size + 1, 3, none⟩) (by first | omega | (simp [ext_size]; try omega))).trans (by (simp (maxDischargeDepth := 8) [go_sem, World.cell?_alloc_past, ltk2, ltk3, ltk4, ltk5, ltk6, ltk7, ltk8, ltk9, *]))
  have cf3_4 : v3.frozen? ⟨w.heap.size + 1, 4, none⟩ = false := (hb3.frozen (p := ⟨w.heap.size + 1, 4, none⟩) (by first | omega | (simp [ext_size]; try omega))).trans (by (simp (maxDischargeDepth := 8) [go_sem, World.cell?_alloc_past, ltk2, ltk3, ltk4, ltk5, ltk6, ltk7, ltk8, ltk9, *]))
  have cf3_5 : v3.frozen? ⟨w.heap.size + 1, 5, none⟩ = false := (hb3.frozen (p := ⟨w.heap.size + 1, 5, none⟩) (by first | omega | (simp [ext_size]; try omega))).trans (by (simp (maxDischargeDepth := 8) [go_sem, World.cell?_alloc_past, ltk2, ltk3, ltk4, ltk5, ltk6, ltk7, ltk8, ltk9, *]))
  have zl3_0 : w.heap.size + 1 < v3.heap.size := by omega
  have zl3_1 : v1.heap.size < v3.heap.size := by omega
  have zl3_2 : v1.heap.size + 1 < v3.heap.size := by omega
  have zl3_3 : v2.heap.size < v3.heap.size := by omega
  have zl3_4 : v2.heap.size + 1 < v3.heap.size := by omega
  have hB3 : Below w.heap.size w v3 := Below.trans (by (repeat (first | with_reducible exact hB2 | (with_reducible refine bext ?_ _ _) | (with_reducible refine below_drewN ?_ _) | (with_reducible refine Below.drew ?_) | (with_reducible refine bal ?_ _) | (with_reducible refine bset ?_ (by first | omega | (simp <;> omega)) _)))) (hb3.mono (by first | omega | (simp [ext_size]; try omega)))
  have zw3 := hB3.size
  clear hb3
  clear cc2_0 cc2_1 cc2_2 cc2_3 cc2_4 cc2_5 cc2_6 cc2_7 cc2_8 cc2_9 cc2_10 cc2_11 cc2_12 cf2_0 cf2_1 cf2_2 cf2_3 cf2_4 cf2_5 zl2_0 zl2_1 zl2_2 zl2_3 zz2 zw2 hB2
  go_wp2_with fail
  with_reducible refine (A4 _).mono ?_
  rintro e v4 ⟨rfl, hb4⟩
  have zz4 := hb4.size
  try simp [ext_size] at zz4
  have cc4_0 : v4.cell? ⟨w.heap.size + 1, 0, none⟩ = some (.int .i64 0) := (hb4.cell (p := ⟨w.heap.size + 1, 0, none⟩) (by first | omega | (simp [ext_size]; try omega))).trans (by (simp (maxDischargeDepth := 8) [go_sem, World.cell?_alloc_past, ltk2, ltk3, ltk4, ltk5, ltk6, ltk7, ltk8, ltk9, *]))
  have cc4_1 : v4.cell? ⟨w.heap.size + 1, 1, none⟩ = some (.int .i64 0) := (hb4.cell (p := ⟨w.heap.size + 1, 1, none⟩) (by first | omega | (simp [ext_size]; try omega))).trans (by (simp (maxDischargeDepth := 8) [go_sem, World.cell?_alloc_past, ltk2, ltk3, ltk4, ltk5, ltk6, ltk7, ltk8, ltk9, *]))
  have cc4_2 : v4.cell? ⟨w.heap.size + 1, 2, none⟩ = some (.int .i64 0) := (hb4.cell (p := ⟨w.heap.size + 1, 2, none⟩) (by first | omega | (simp [ext_size]; try omega))).trans (by (simp (maxDischargeDepth := 8) [go_sem, World.cell?_alloc_past, ltk2, ltk3, ltk4, ltk5, ltk6, ltk7, ltk8, ltk9, *]))
  have cc4_3 : v4.cell? ⟨w.heap.size + 1, 3, none⟩ = some (.int .i64 0) := (hb4.cell (p := ⟨w.heap.size + 1, 3, none⟩) (by first | omega | (simp [ext_size]; try omega))).trans (by (simp (maxDischargeDepth := 8) [go_sem, World.cell?_alloc_past, ltk2, ltk3, ltk4, ltk5, ltk6, ltk7, ltk8, ltk9, *]))
  have cc4_4 : v4.cell? ⟨w.heap.size + 1, 4, none⟩ = some (.int .i64 0) := (hb4.cell (p := ⟨w.heap.size + 1, 4, none⟩) (by first | omega | (simp [ext_size]; try omega))).trans (by (simp (maxDischargeDepth := 8) [go_sem, World.cell?_alloc_past, ltk2, ltk3, ltk4, ltk5, ltk6, ltk7, ltk8, ltk9, *]))
  have cc4_5 : v4.cell? ⟨w.heap.size + 1, 5, none⟩ = some (.int .i64 0) := (hb4.cell (p := ⟨w.heap.size + 1, 5, none⟩) (by first | omega | (simp [ext_size]; try omega))).trans (by (simp (maxDischargeDepth := 8) [go_sem, World.cell?_alloc_past, ltk2, ltk3, ltk4, ltk5, ltk6, ltk7, ltk8, ltk9, *]))
  have cc4_6 : v4.cell? ⟨v1.heap.size, 0, none⟩ = some (.int .i64 z1) := (hb4.cell (p := ⟨v1.heap.size, 0, none⟩) (by first | omega | (simp [ext_size]; try omega))).trans (by (simp (maxDischargeDepth := 8) [go_sem, World.cell?_alloc_past, ltk2, ltk3, ltk4, ltk5, ltk6, ltk7, ltk8, ltk9, *]))
  have cc4_7 : v4.cell? ⟨v1.heap.size, 1, none⟩ = some (.int .i64 z2) := (hb4.cell (p := ⟨v1.heap.size, 1, none⟩) (by first | omega | (simp [ext_size]; try omega))).trans (by (simp (maxDischargeDepth := 8) [go_sem, World.cell?_alloc_past, ltk2, ltk3, ltk4, ltk5, ltk6, ltk7, ltk8, ltk9, *]))
  have cc4_8 : v4.cell? ⟨v1.heap.size + 1, 0, none⟩ = some (.int .i64 z3) := (hb4.cell (p := ⟨v1.heap.size + 1, 0, none⟩) (by first | omega | (simp [ext_size]; try omega))).trans (by (simp (maxDischargeDepth := 8) [go_sem, World.cell?_alloc_past, ltk2, ltk3, ltk4, ltk5, ltk6, ltk7, ltk8, ltk9, *]))
  have cc4_9 : v4.cell? ⟨v1.heap.size + 1, 1, none⟩ = some (.int .i64 z4) := (hb4.cell (p := ⟨v1.heap.size + 1, 1, none⟩) (by first | omega | (simp [ext_size]; try omega))).trans (by (simp (maxDischargeDepth := 8) [go_sem, World.cell?_alloc_past, ltk2, ltk3, ltk4, ltk5, ltk6, ltk7, ltk8, ltk9, *]))
  have cc4_10 : v4.cell? ⟨v2.heap.size, 0, none⟩ = some (.int .i64 x1) := (hb4.cell (p := ⟨v2.heap.size, 0, none⟩) (by first | omega | (simp [ext_size]; try omega))).trans (by (simp (maxDischargeDepth := 8) [go_sem, World.cell?_alloc_past, ltk2, ltk3, ltk4, ltk5, ltk6, ltk7, ltk8, ltk9, *]))
  have cc4_11 : v4.cell? ⟨v2.heap.size, 1, none⟩ = some (.int .i64 x2) := (hb4.cell (p := ⟨v2.heap.size, 1, none⟩) (by first | omega | (simp [ext_size]; try omega))).trans (by (simp (maxDischargeDepth := 8) [go_sem, World.cell?_alloc_past, ltk2, ltk3, ltk4, ltk5, ltk6, ltk7, ltk8, ltk9, *]))
  have cc4_12 : v4.cell? ⟨v2.heap.size + 1, 0, none⟩ = some (.int .i64 x3) := (hb4.cell (p := ⟨v2.heap.size + 1, 0, none⟩) (by first | omega | (simp [ext_size]; try omega))).trans (by (simp (maxDischargeDepth := 8) [go_sem, World.cell?_alloc_past, ltk2, ltk3, ltk4, ltk5, ltk6, ltk7, ltk8, ltk9, *]))
  have cc4_13 : v4.cell? ⟨v2.heap.size + 1, 1, none⟩ = some (.int .i64 x4) := (hb4.cell (p := ⟨v2.heap.size + 1, 1, none⟩) (by first | omega | (simp [ext_size]; try omega))).trans (by (simp (maxDischargeDepth := 8) [go_sem, World.cell?_alloc_past, ltk2, ltk3, ltk4, ltk5, ltk6, ltk7, ltk8, ltk9, *]))
  have cc4_14 : v4.cell? ⟨v3.heap.size, 0, none⟩ = some (.int .i64 y1) := (hb4.cell (p := ⟨v3.heap.size, 0, none⟩) (by first | omega | (simp [ext_size]; try omega))).trans (by (simp (maxDischargeDepth := 8) [go_sem, World.cell?_alloc_past, ltk2, ltk3, ltk4, ltk5, ltk6, ltk7, ltk8, ltk9, *]))
  have cc4_15 : v4.cell? ⟨v3.heap.size, 1, none⟩ = some (.int .i64 y2) := (hb4.cell (p := ⟨v3.heap.size, 1, none⟩) (by first | omega | (simp [ext_size]; try omega))).trans (by (simp (maxDischargeDepth := 8) [go_sem, World.cell?_alloc_past, ltk2, ltk3, ltk4, ltk5, ltk6, ltk7, ltk8, ltk9, *]))
  have cf4_0 : v4.frozen? ⟨w.heap.size + 1, 0, none⟩ = false := (hb4.frozen (p := ⟨w.heap.size + 1, 0, none⟩) (by first | omega | (simp [ext_size]; try omega))).trans (by (simp (maxDischargeDepth := 8) [go_sem, World.cell?_alloc_past, ltk2, ltk3, ltk4, ltk5, ltk6, ltk7, ltk8, ltk9, *]))
  have cf4_1 : v4.frozen? ⟨w.heap.size + 1, 1, none⟩ = false := (hb4.frozen (p := ⟨w.heap.size + 1, 1, none⟩) (by first | omega | (simp [ext_size]; try omega))).trans (by (simp (maxDischargeDepth := 8) [go_sem, World.cell?_alloc_past, ltk2, ltk3, ltk4, ltk5, ltk6, ltk7, ltk8, ltk9, *]))
  have cf4_2 : v4.frozen? ⟨w.heap.size + 1, 2, none⟩ = false := (hb4.frozen (p := ⟨w.heap.size + 1, 2, none⟩) (by first | omega | (simp [ext_size]; try omega))).trans (by (simp (maxDischargeDepth := 8) [go_sem, World.cell?_alloc_past, ltk2, ltk3, ltk4, ltk5, ltk6, ltk7, ltk8, ltk9, *]))
  have cf4_3 : v4.frozen? ⟨w.heap.size + 1, 3, none⟩ = false := (hb4.frozen (p := ⟨w.heap.size + 1, 3, none⟩) (by first | omega | (simp [ext_size]; try omega))).trans (by (simp (maxDischargeDepth := 8) [go_sem, World.cell?_alloc_past, ltk2, ltk3, ltk4, ltk5, ltk6, ltk7, ltk8, ltk9, *]))
  have cf4_4 : v4.frozen? ⟨w.heap.size + 1, 4, none⟩ = false := (hb4.frozen (p := ⟨w.heap.size + 1, 4, none⟩) (by first | omega | (simp [ext_size]; try omega))).trans (by (simp (maxDischargeDepth := 8) [go_sem, World.cell?_alloc_past, ltk2, ltk3, ltk4, ltk5, ltk6, ltk7, ltk8, ltk9, *]))
  have cf4_5 : v4.frozen? ⟨w.heap.size + 1, 5, none⟩ = false := (hb4.frozen (p := ⟨w.heap.size + 1, 5, none⟩) (by first | omega | (simp [ext_size]; try omega))).trans (by (simp (maxDischargeDepth := 8) [go_sem, World.cell?_alloc_past, ltk2, ltk3, ltk4, ltk5, ltk6, ltk7, ltk8, ltk9, *]))
  have zl4_0 : w.heap.size + 1 < v4.heap.size := by omega
  have zl4_1 : v1.heap.size < v4.heap.size := by omega
  have zl4_2 : v1.heap.size + 1 < v4.heap.size := by omega
  have zl4_3 : v2.heap.size < v4.heap.size := by omega
  have zl4_4 : v2.heap.size + 1 < v4.heap.size := by omega
  have zl4_5 : v3.heap.size < v4.heap.size := by omega
  have hB4 : Below w.heap.size w v4 := Below.trans (by (repeat (first | with_reducible exact hB3 | (with_reducible refine bext ?_ _ _) | (with_reducible refine below_drewN ?_ _) | (with_reducible refine Below.drew ?_) | (with_reducible refine bal ?_ _) | (with_reducible refine bset ?_ (by first | omega | (simp <;> omega)) _)))) (hb4.mono (by first | omega | (simp [ext_size]; try omega)))
  have zw4 := hB4.size
  clear hb4
  clear cc3_0 cc3_1 cc3_2 cc3_3 cc3_4 cc3_5 cc3_6 cc3_7 cc3_8 cc3_9 cc3_10 cc3_11 cc3_12 cc3_13 cf3_0 cf3_1 cf3_2 cf3_3 cf3_4 cf3_5 zl3_0 zl3_1 zl3_2 zl3_3 zl3_4 zz3 zw3 hB3
  clear dAl dSt xC xF xS xN xD xL xE xG xX xL1 xL2 xL3 xM0 xM1 xM2 A1 A2 A3 A4
  go_upto_region 5 with fail
  refine opq (fun wx => wx.cell? ⟨v3.heap.size, 0, none⟩ = some (.int .i64 y1) ∧ wx.cell? ⟨v3.heap.size, 1, none⟩ = some (.int .i64 y2) ∧ wx.cell? ⟨v4.heap.size, 0, none⟩ = some (.int .i64 y4) ∧ wx.cell? ⟨v4.heap.size, 1, none⟩ = some (.int .i64 y5) ∧ wx.cell? ⟨v1.heap.size + 1, 0, none⟩ = some (.int .i64 z3) ∧ wx.cell? ⟨v1.heap.size + 1, 1, none⟩ = some (.int .i64 z4) ∧ wx.cell? ⟨w.heap.size + 1, 0, none⟩ = some (.int .i64 0) ∧ wx.cell? ⟨w.heap.size + 1, 1, none⟩ = some (.int .i64 0) ∧ wx.cell? ⟨w.heap.size + 1, 2, none⟩ = some (.int .i64 0) ∧ wx.cell? ⟨w.heap.size + 1, 3, none⟩ = some (.int .i64 0) ∧ wx.cell? ⟨w.heap.size + 1, 4, none⟩ = some (.int .i64 0) ∧ wx.cell? ⟨w.heap.size + 1, 5, none⟩ = some (.int .i64 0) ∧ wx.frozen? ⟨w.heap.size + 1, 0, none⟩ = false ∧ wx.frozen? ⟨w.heap.size + 1, 1, none⟩ = false ∧ wx.frozen? ⟨w.heap.size + 1, 2, none⟩ = false ∧ wx.frozen? ⟨w.heap.size + 1, 3, none⟩ = false ∧ wx.frozen? ⟨w.heap.size + 1, 4, none⟩ = false ∧ wx.frozen? ⟨w.heap.size + 1, 5, none⟩ = false ∧ w.heap.size + 1 < wx.heap.size ∧ Below w.heap.size w wx) ?_ ?_
  · exact ⟨by first | assumption | (simp (maxDischargeDepth := 8) [go_sem, World.cell?_alloc_past, ltk2, ltk3, ltk4, ltk5, ltk6, ltk7, ltk8, ltk9, *]), by first | assumption | (simp (maxDischargeDepth := 8) [go_sem, World.cell?_alloc_past, ltk2, ltk3, ltk4, ltk5, ltk6, ltk7, ltk8, ltk9, *]), by first | assumption | (simp (maxDischargeDepth := 8) [go_sem, World.cell?_alloc_past, ltk2, ltk3, ltk4, ltk5, ltk6, ltk7, ltk8, ltk9, *]), by first | assumption | (simp (maxDischargeDepth := 8) [go_sem, World.cell?_alloc_past, ltk2, ltk3, ltk4, ltk5, ltk6, ltk7, ltk8, ltk9, *]), by first | assumption | (simp (maxDischargeDepth := 8) [go_sem, World.cell?_alloc_past, ltk2, ltk3, ltk4, ltk5, ltk6, ltk7, ltk8, ltk9, *]), by first | assumption | (simp (maxDischargeDepth := 8) [go_sem, World.cell?_alloc_past, ltk2, ltk3, ltk4, ltk5, ltk6, ltk7, ltk8, ltk9, *]), by first | assumption | (simp (maxDischargeDepth := 8) [go_sem, World.cell?_alloc_past, ltk2, ltk3, ltk4, ltk5, ltk6, ltk7, ltk8, ltk9, *]), by first | assumption | (simp (maxDischargeDepth := 8) [go_sem, World.cell?_alloc_past, ltk2, ltk3, ltk4, ltk5, ltk6, ltk7, ltk8, ltk9, *]), by first | assumption | (simp (maxDischargeDepth := 8) [go_sem, World.cell?_alloc_past, ltk2, ltk3, ltk4, ltk5, ltk6, ltk7, ltk8, ltk9, *]), by first | assumption | (simp (maxDischargeDepth := 8) [go_sem, World.cell?_alloc_past, ltk2, ltk3, ltk4, ltk5, ltk6, ltk7, ltk8, ltk9, *]), by first | assumption | (simp (maxDischargeDepth := 8) [go_sem, World.cell?_alloc_past, ltk2, ltk3, ltk4, ltk5, ltk6, ltk7, ltk8, ltk9, *]), by first | assumption | (simp (maxDischargeDepth := 8) [go_sem, World.cell?_alloc_past, ltk2, ltk3, ltk4, ltk5, ltk6, ltk7, ltk8, ltk9, *]), by first | assumption | (simp (maxDischargeDepth := 8) [go_sem, World.cell?_alloc_past, ltk2, ltk3, ltk4, ltk5, ltk6, ltk7, ltk8, ltk9, *]), by first | assumption | (simp (maxDischargeDepth := 8) [go_sem, World.cell?_alloc_past, ltk2, ltk3, ltk4, ltk5, ltk6, ltk7, ltk8, ltk9, *]), by first | assumption | (simp (maxDischargeDepth := 8) [go_sem, World.cell?_alloc_past, ltk2, ltk3, ltk4, ltk5, ltk6, ltk7, ltk8, ltk9, *]), by first | assumption | (simp (maxDischargeDepth := 8) [go_sem, World.cell?_alloc_past, ltk2, ltk3, ltk4, ltk5, ltk6, ltk7, ltk8, ltk9, *]), by first | assumption | (simp (maxDischargeDepth := 8) [go_sem, World.cell?_alloc_past, ltk2, ltk3, ltk4, ltk5, ltk6, ltk7, ltk8, ltk9, *]), by first | assumption | (simp (maxDischargeDepth := 8) [go_sem, World.cell?_alloc_past, ltk2, ltk3, ltk4, ltk5, ltk6, ltk7, ltk8, ltk9, *]), by first | assumption | omega | (simp [ext_size]; try omega), by (repeat (first | with_reducible exact hB4 | (with_reducible refine bext ?_ _ _) | (with_reducible refine below_drewN ?_ _) | (with_reducible refine Below.drew ?_) | (with_reducible refine bal ?_ _) | (with_reducible refine bset ?_ (by first | omega | (simp <;> omega)) _)))⟩
  rintro wx ⟨k0, k1, k2, k3, k4, k5, k6, k7, k8, k9, k10, k11, f0, f1, f2, f3, f4, f5, zs0, hB⟩
  clear cc4_0 cc4_1 cc4_2 cc4_3 cc4_4 cc4_5 cc4_6 cc4_7 cc4_8 cc4_9 cc4_10 cc4_11 cc4_12 cc4_13 cc4_14 cc4_15 cf4_0 cf4_1 cf4_2 cf4_3 cf4_4 cf4_5 zl4_0 zl4_1 zl4_2 zl4_3 zl4_4 zl4_5 zz4 zw4 hB4
  go_wp2
  refine bodyPost_ret (by simp [results, Try.results39, go_sem, ext_cell, World.cell?_alloc_past, ltk2, ltk3, ltk4, ltk5, ltk6, ltk7, ltk8, ltk9, *]; try rfl) rfl ?_
  exact ⟨rfl, by (repeat (first | with_reducible exact hB | (with_reducible refine bext ?_ _ _) | (with_reducible refine below_drewN ?_ _) | (with_reducible refine Below.drew ?_) | (with_reducible refine bal ?_ _) | (with_reducible refine bset ?_ (by first | omega | (simp <;> omega)) _)))⟩

set_option maxRecDepth 100000 in
set_option maxHeartbeats 1600000 in
theorem ref6_At_bad (s : ByteArray) (ra dec t : Int) (h1 : srE s ra dec = 8) (w : World) :
    Calls Try.prog 18 #[.agg #[.string s, .int .i64 ra, .int .i64 dec], .int .i64 t] w fun e w' => e = .returned (.tuple #[.agg #[.int .i64 0, .int .i64 0, .int .i64 0, .int .i64 0, .int .i64 0, .int .i64 0], .int .i64 8]) ∧ Below w.heap.size w w' := by
  have A1 := fun w => ref6_Check s ra dec w
  have A2 := fun w => ref6_Tick t w
  rw [h1] at A1
  clear h1
  have dAl := dAl; have dSt := dSt; have xC := ext_cell; have xF := ext_frozen; have xS := ext_set; have xN := ext_drewN; have xD := ext_drew; have xL := ext_lt; have xE := ext_ne; have xG := ext_nr; have xX := ext_ext; have xL1 := ext_lt1; have xL2 := ext_lt2; have xL3 := ext_lt3; have xM0 := ext_le0; have xM1 := ext_le1; have xM2 := ext_le2
  go_enter Try.func18, Try.ntmps18
  go_wp2_with fail
  with_reducible refine (A1 _).mono ?_
  rintro e v1 ⟨rfl, hb1⟩
  have zz1 := hb1.size
  try simp [ext_size] at zz1
  have cc1_0 : v1.cell? ⟨w.heap.size, 0, none⟩ = some (.string s) := (hb1.cell (p := ⟨w.heap.size, 0, none⟩) (by first | omega | (simp [ext_size]; try omega))).trans (by (simp (maxDischargeDepth := 8) [go_sem, World.cell?_alloc_past, ltk2, ltk3, ltk4, ltk5, ltk6, ltk7, ltk8, ltk9, *]))
  have cc1_1 : v1.cell? ⟨w.heap.size, 1, none⟩ = some (.int .i64 ra) := (hb1.cell (p := ⟨w.heap.size, 1, none⟩) (by first | omega | (simp [ext_size]; try omega))).trans (by (simp (maxDischargeDepth := 8) [go_sem, World.cell?_alloc_past, ltk2, ltk3, ltk4, ltk5, ltk6, ltk7, ltk8, ltk9, *]))
  have cc1_2 : v1.cell? ⟨w.heap.size, 2, none⟩ = some (.int .i64 dec) := (hb1.cell (p := ⟨w.heap.size, 2, none⟩) (by first | omega | (simp [ext_size]; try omega))).trans (by (simp (maxDischargeDepth := 8) [go_sem, World.cell?_alloc_past, ltk2, ltk3, ltk4, ltk5, ltk6, ltk7, ltk8, ltk9, *]))
  have cc1_3 : v1.cell? ⟨w.heap.size + 1, 0, none⟩ = some (.int .i64 0) := (hb1.cell (p := ⟨w.heap.size + 1, 0, none⟩) (by first | omega | (simp [ext_size]; try omega))).trans (by (simp (maxDischargeDepth := 8) [go_sem, World.cell?_alloc_past, ltk2, ltk3, ltk4, ltk5, ltk6, ltk7, ltk8, ltk9, *]))
  have cc1_4 : v1.cell? ⟨w.heap.size + 1, 1, none⟩ = some (.int .i64 0) := (hb1.cell (p := ⟨w.heap.size + 1, 1, none⟩) (by first | omega | (simp [ext_size]; try omega))).trans (by (simp (maxDischargeDepth := 8) [go_sem, World.cell?_alloc_past, ltk2, ltk3, ltk4, ltk5, ltk6, ltk7, ltk8, ltk9, *]))
  have cc1_5 : v1.cell? ⟨w.heap.size + 1, 2, none⟩ = some (.int .i64 0) := (hb1.cell (p := ⟨w.heap.size + 1, 2, none⟩) (by first | omega | (simp [ext_size]; try omega))).trans (by (simp (maxDischargeDepth := 8) [go_sem, World.cell?_alloc_past, ltk2, ltk3, ltk4, ltk5, ltk6, ltk7, ltk8, ltk9, *]))
  have cc1_6 : v1.cell? ⟨w.heap.size + 1, 3, none⟩ = some (.int .i64 0) := (hb1.cell (p := ⟨w.heap.size + 1, 3, none⟩) (by first | omega | (simp [ext_size]; try omega))).trans (by (simp (maxDischargeDepth := 8) [go_sem, World.cell?_alloc_past, ltk2, ltk3, ltk4, ltk5, ltk6, ltk7, ltk8, ltk9, *]))
  have cc1_7 : v1.cell? ⟨w.heap.size + 1, 4, none⟩ = some (.int .i64 0) := (hb1.cell (p := ⟨w.heap.size + 1, 4, none⟩) (by first | omega | (simp [ext_size]; try omega))).trans (by (simp (maxDischargeDepth := 8) [go_sem, World.cell?_alloc_past, ltk2, ltk3, ltk4, ltk5, ltk6, ltk7, ltk8, ltk9, *]))
  have cc1_8 : v1.cell? ⟨w.heap.size + 1, 5, none⟩ = some (.int .i64 0) := (hb1.cell (p := ⟨w.heap.size + 1, 5, none⟩) (by first | omega | (simp [ext_size]; try omega))).trans (by (simp (maxDischargeDepth := 8) [go_sem, World.cell?_alloc_past, ltk2, ltk3, ltk4, ltk5, ltk6, ltk7, ltk8, ltk9, *]))
  have cf1_0 : v1.frozen? ⟨w.heap.size + 1, 0, none⟩ = false := (hb1.frozen (p := ⟨w.heap.size + 1, 0, none⟩) (by first | omega | (simp [ext_size]; try omega))).trans (by (simp (maxDischargeDepth := 8) [go_sem, World.cell?_alloc_past, ltk2, ltk3, ltk4, ltk5, ltk6, ltk7, ltk8, ltk9, *]))
  have cf1_1 : v1.frozen? ⟨w.heap.size + 1, 1, none⟩ = false := (hb1.frozen (p := ⟨w.heap.size + 1, 1, none⟩) (by first | omega | (simp [ext_size]; try omega))).trans (by (simp (maxDischargeDepth := 8) [go_sem, World.cell?_alloc_past, ltk2, ltk3, ltk4, ltk5, ltk6, ltk7, ltk8, ltk9, *]))
  have cf1_2 : v1.frozen? ⟨w.heap.size + 1, 2, none⟩ = false := (hb1.frozen (p := ⟨w.heap.size + 1, 2, none⟩) (by first | omega | (simp [ext_size]; try omega))).trans (by (simp (maxDischargeDepth := 8) [go_sem, World.cell?_alloc_past, ltk2, ltk3, ltk4, ltk5, ltk6, ltk7, ltk8, ltk9, *]))
  have cf1_3 : v1.frozen? ⟨w.heap.size + 1, 3, none⟩ = false := (hb1.frozen (p := ⟨w.heap.size + 1, 3, none⟩) (by first | omega | (simp [ext_size]; try omega))).trans (by (simp (maxDischargeDepth := 8) [go_sem, World.cell?_alloc_past, ltk2, ltk3, ltk4, ltk5, ltk6, ltk7, ltk8, ltk9, *]))
  have cf1_4 : v1.frozen? ⟨w.heap.size + 1, 4, none⟩ = false := (hb1.frozen (p := ⟨w.heap.size + 1, 4, none⟩) (by first | omega | (simp [ext_size]; try omega))).trans (by (simp (maxDischargeDepth := 8) [go_sem, World.cell?_alloc_past, ltk2, ltk3, ltk4, ltk5, ltk6, ltk7, ltk8, ltk9, *]))
  have cf1_5 : v1.frozen? ⟨w.heap.size + 1, 5, none⟩ = false := (hb1.frozen (p := ⟨w.heap.size + 1, 5, none⟩) (by first | omega | (simp [ext_size]; try omega))).trans (by (simp (maxDischargeDepth := 8) [go_sem, World.cell?_alloc_past, ltk2, ltk3, ltk4, ltk5, ltk6, ltk7, ltk8, ltk9, *]))
  have zl1_0 : w.heap.size < v1.heap.size := by omega
  have zl1_1 : w.heap.size + 1 < v1.heap.size := by omega
  have hB1 : Below w.heap.size w v1 := Below.trans (by (repeat (first | with_reducible exact b0 _ | (with_reducible refine bext ?_ _ _) | (with_reducible refine below_drewN ?_ _) | (with_reducible refine Below.drew ?_) | (with_reducible refine bal ?_ _)))) (hb1.mono (by first | omega | (simp [ext_size]; try omega)))
  have zw1 := hB1.size
  clear hb1
  go_wp2_with fail
  with_reducible refine (A1 _).mono ?_
  rintro e v2 ⟨rfl, hb2⟩
  have zz2 := hb2.size
  try simp [ext_size] at zz2
  have cc2_0 : v2.cell? ⟨w.heap.size + 1, 0, none⟩ = some (.int .i64 0) := (hb2.cell (p := ⟨w.heap.size + 1, 0, none⟩) (by first | omega | (simp [ext_size]; try omega))).trans (by (simp (maxDischargeDepth := 8) [go_sem, World.cell?_alloc_past, ltk2, ltk3, ltk4, ltk5, ltk6, ltk7, ltk8, ltk9, *]))
  have cc2_1 : v2.cell? ⟨w.heap.size + 1, 1, none⟩ = some (.int .i64 0) := (hb2.cell (p := ⟨w.heap.size + 1, 1, none⟩) (by first | omega | (simp [ext_size]; try omega))).trans (by (simp (maxDischargeDepth := 8) [go_sem, World.cell?_alloc_past, ltk2, ltk3, ltk4, ltk5, ltk6, ltk7, ltk8, ltk9, *]))
  have cc2_2 : v2.cell? ⟨w.heap.size + 1, 2, none⟩ = some (.int .i64 0) := (hb2.cell (p := ⟨w.heap.size + 1, 2, none⟩) (by first | omega | (simp [ext_size]; try omega))).trans (by (simp (maxDischargeDepth := 8) [go_sem, World.cell?_alloc_past, ltk2, ltk3, ltk4, ltk5, ltk6, ltk7, ltk8, ltk9, *]))
  have cc2_3 : v2.cell? ⟨w.heap.size + 1, 3, none⟩ = some (.int .i64 0) := (hb2.cell (p := ⟨w.heap.size + 1, 3, none⟩) (by first | omega | (simp [ext_size]; try omega))).trans (by (simp (maxDischargeDepth := 8) [go_sem, World.cell?_alloc_past, ltk2, ltk3, ltk4, ltk5, ltk6, ltk7, ltk8, ltk9, *]))
  have cc2_4 : v2.cell? ⟨w.heap.size + 1, 4, none⟩ = some (.int .i64 0) := (hb2.cell (p := ⟨w.heap.size + 1, 4, none⟩) (by first | omega | (simp [ext_size]; try omega))).trans (by (simp (maxDischargeDepth := 8) [go_sem, World.cell?_alloc_past, ltk2, ltk3, ltk4, ltk5, ltk6, ltk7, ltk8, ltk9, *]))
  have cc2_5 : v2.cell? ⟨w.heap.size + 1, 5, none⟩ = some (.int .i64 0) := (hb2.cell (p := ⟨w.heap.size + 1, 5, none⟩) (by first | omega | (simp [ext_size]; try omega))).trans (by (simp (maxDischargeDepth := 8) [go_sem, World.cell?_alloc_past, ltk2, ltk3, ltk4, ltk5, ltk6, ltk7, ltk8, ltk9, *]))
  have cf2_0 : v2.frozen? ⟨w.heap.size + 1, 0, none⟩ = false := (hb2.frozen (p := ⟨w.heap.size + 1, 0, none⟩) (by first | omega | (simp [ext_size]; try omega))).trans (by (simp (maxDischargeDepth := 8) [go_sem, World.cell?_alloc_past, ltk2, ltk3, ltk4, ltk5, ltk6, ltk7, ltk8, ltk9, *]))
  have cf2_1 : v2.frozen? ⟨w.heap.size + 1, 1, none⟩ = false := (hb2.frozen (p := ⟨w.heap.size + 1, 1, none⟩) (by first | omega | (simp [ext_size]; try omega))).trans (by (simp (maxDischargeDepth := 8) [go_sem, World.cell?_alloc_past, ltk2, ltk3, ltk4, ltk5, ltk6, ltk7, ltk8, ltk9, *]))
  have cf2_2 : v2.frozen? ⟨w.heap.size + 1, 2, none⟩ = false := (hb2.frozen (p := ⟨w.heap.size + 1, 2, none⟩) (by first | omega | (simp [ext_size]; try omega))).trans (by (simp (maxDischargeDepth := 8) [go_sem, World.cell?_alloc_past, ltk2, ltk3, ltk4, ltk5, ltk6, ltk7, ltk8, ltk9, *]))
  have cf2_3 : v2.frozen? ⟨w.heap.size + 1, 3, none⟩ = false := (hb2.frozen (p := ⟨w.heap.size + 1, 3, none⟩) (by first | omega | (simp [ext_size]; try omega))).trans (by (simp (maxDischargeDepth := 8) [go_sem, World.cell?_alloc_past, ltk2, ltk3, ltk4, ltk5, ltk6, ltk7, ltk8, ltk9, *]))
  have cf2_4 : v2.frozen? ⟨w.heap.size + 1, 4, none⟩ = false := (hb2.frozen (p := ⟨w.heap.size + 1, 4, none⟩) (by first | omega | (simp [ext_size]; try omega))).trans (by (simp (maxDischargeDepth := 8) [go_sem, World.cell?_alloc_past, ltk2, ltk3, ltk4, ltk5, ltk6, ltk7, ltk8, ltk9, *]))
  have cf2_5 : v2.frozen? ⟨w.heap.size + 1, 5, none⟩ = false := (hb2.frozen (p := ⟨w.heap.size + 1, 5, none⟩) (by first | omega | (simp [ext_size]; try omega))).trans (by (simp (maxDischargeDepth := 8) [go_sem, World.cell?_alloc_past, ltk2, ltk3, ltk4, ltk5, ltk6, ltk7, ltk8, ltk9, *]))
  have zl2_0 : w.heap.size + 1 < v2.heap.size := by omega
  have hB2 : Below w.heap.size w v2 := Below.trans (by (repeat (first | with_reducible exact hB1 | (with_reducible refine bext ?_ _ _) | (with_reducible refine below_drewN ?_ _) | (with_reducible refine Below.drew ?_) | (with_reducible refine bal ?_ _) | (with_reducible refine bset ?_ (by first | omega | (simp <;> omega)) _)))) (hb2.mono (by first | omega | (simp [ext_size]; try omega)))
  have zw2 := hB2.size
  clear hb2
  clear cc1_0 cc1_1 cc1_2 cc1_3 cc1_4 cc1_5 cc1_6 cc1_7 cc1_8 cf1_0 cf1_1 cf1_2 cf1_3 cf1_4 cf1_5 zl1_0 zl1_1 zz1 zw1 hB1
  clear dAl dSt xC xF xS xN xD xL xE xG xX xL1 xL2 xL3 xM0 xM1 xM2 A1 A2
  go_wp2
  refine bodyPost_ret (by simp [results, Try.results18, go_sem, ext_cell, World.cell?_alloc_past, ltk2, ltk3, ltk4, ltk5, ltk6, ltk7, ltk8, ltk9, *]; try rfl) rfl ?_
  exact ⟨rfl, by (repeat (first | with_reducible exact hB2 | (with_reducible refine bext ?_ _ _) | (with_reducible refine below_drewN ?_ _) | (with_reducible refine Below.drew ?_) | (with_reducible refine bal ?_ _) | (with_reducible refine bset ?_ (by first | omega | (simp <;> omega)) _)))⟩

set_option maxRecDepth 100000 in
set_option maxHeartbeats 1600000 in
theorem ref6_At_arg (s : ByteArray) (ra dec t : Int) (h1 : srE s ra dec = 0) (h2 : tkB t = false) (w : World) :
    Calls Try.prog 18 #[.agg #[.string s, .int .i64 ra, .int .i64 dec], .int .i64 t] w fun e w' => e = .returned (.tuple #[.agg #[.int .i64 0, .int .i64 0, .int .i64 0, .int .i64 0, .int .i64 0, .int .i64 0], .int .i64 2]) ∧ Below w.heap.size w w' := by
  have A1 := fun w => ref6_Check s ra dec w
  have A2 := fun w => ref6_Tick t w
  rw [h1] at A1
  rw [h2] at A2
  clear h1 h2
  have dAl := dAl; have dSt := dSt; have xC := ext_cell; have xF := ext_frozen; have xS := ext_set; have xN := ext_drewN; have xD := ext_drew; have xL := ext_lt; have xE := ext_ne; have xG := ext_nr; have xX := ext_ext; have xL1 := ext_lt1; have xL2 := ext_lt2; have xL3 := ext_lt3; have xM0 := ext_le0; have xM1 := ext_le1; have xM2 := ext_le2
  go_enter Try.func18, Try.ntmps18
  go_wp2_with fail
  with_reducible refine (A1 _).mono ?_
  rintro e v1 ⟨rfl, hb1⟩
  have zz1 := hb1.size
  try simp [ext_size] at zz1
  have cc1_0 : v1.cell? ⟨w.heap.size, 0, none⟩ = some (.string s) := (hb1.cell (p := ⟨w.heap.size, 0, none⟩) (by first | omega | (simp [ext_size]; try omega))).trans (by (simp (maxDischargeDepth := 8) [go_sem, World.cell?_alloc_past, ltk2, ltk3, ltk4, ltk5, ltk6, ltk7, ltk8, ltk9, *]))
  have cc1_1 : v1.cell? ⟨w.heap.size, 1, none⟩ = some (.int .i64 ra) := (hb1.cell (p := ⟨w.heap.size, 1, none⟩) (by first | omega | (simp [ext_size]; try omega))).trans (by (simp (maxDischargeDepth := 8) [go_sem, World.cell?_alloc_past, ltk2, ltk3, ltk4, ltk5, ltk6, ltk7, ltk8, ltk9, *]))
  have cc1_2 : v1.cell? ⟨w.heap.size, 2, none⟩ = some (.int .i64 dec) := (hb1.cell (p := ⟨w.heap.size, 2, none⟩) (by first | omega | (simp [ext_size]; try omega))).trans (by (simp (maxDischargeDepth := 8) [go_sem, World.cell?_alloc_past, ltk2, ltk3, ltk4, ltk5, ltk6, ltk7, ltk8, ltk9, *]))
  have cc1_3 : v1.cell? ⟨w.heap.size + 1, 0, none⟩ = some (.int .i64 0) := (hb1.cell (p := ⟨w.heap.size + 1, 0, none⟩) (by first | omega | (simp [ext_size]; try omega))).trans (by (simp (maxDischargeDepth := 8) [go_sem, World.cell?_alloc_past, ltk2, ltk3, ltk4, ltk5, ltk6, ltk7, ltk8, ltk9, *]))
  have cc1_4 : v1.cell? ⟨w.heap.size + 1, 1, none⟩ = some (.int .i64 0) := (hb1.cell (p := ⟨w.heap.size + 1, 1, none⟩) (by first | omega | (simp [ext_size]; try omega))).trans (by (simp (maxDischargeDepth := 8) [go_sem, World.cell?_alloc_past, ltk2, ltk3, ltk4, ltk5, ltk6, ltk7, ltk8, ltk9, *]))
  have cc1_5 : v1.cell? ⟨w.heap.size + 1, 2, none⟩ = some (.int .i64 0) := (hb1.cell (p := ⟨w.heap.size + 1, 2, none⟩) (by first | omega | (simp [ext_size]; try omega))).trans (by (simp (maxDischargeDepth := 8) [go_sem, World.cell?_alloc_past, ltk2, ltk3, ltk4, ltk5, ltk6, ltk7, ltk8, ltk9, *]))
  have cc1_6 : v1.cell? ⟨w.heap.size + 1, 3, none⟩ = some (.int .i64 0) := (hb1.cell (p := ⟨w.heap.size + 1, 3, none⟩) (by first | omega | (simp [ext_size]; try omega))).trans (by (simp (maxDischargeDepth := 8) [go_sem, World.cell?_alloc_past, ltk2, ltk3, ltk4, ltk5, ltk6, ltk7, ltk8, ltk9, *]))
  have cc1_7 : v1.cell? ⟨w.heap.size + 1, 4, none⟩ = some (.int .i64 0) := (hb1.cell (p := ⟨w.heap.size + 1, 4, none⟩) (by first | omega | (simp [ext_size]; try omega))).trans (by (simp (maxDischargeDepth := 8) [go_sem, World.cell?_alloc_past, ltk2, ltk3, ltk4, ltk5, ltk6, ltk7, ltk8, ltk9, *]))
  have cc1_8 : v1.cell? ⟨w.heap.size + 1, 5, none⟩ = some (.int .i64 0) := (hb1.cell (p := ⟨w.heap.size + 1, 5, none⟩) (by first | omega | (simp [ext_size]; try omega))).trans (by (simp (maxDischargeDepth := 8) [go_sem, World.cell?_alloc_past, ltk2, ltk3, ltk4, ltk5, ltk6, ltk7, ltk8, ltk9, *]))
  have cf1_0 : v1.frozen? ⟨w.heap.size + 1, 0, none⟩ = false := (hb1.frozen (p := ⟨w.heap.size + 1, 0, none⟩) (by first | omega | (simp [ext_size]; try omega))).trans (by (simp (maxDischargeDepth := 8) [go_sem, World.cell?_alloc_past, ltk2, ltk3, ltk4, ltk5, ltk6, ltk7, ltk8, ltk9, *]))
  have cf1_1 : v1.frozen? ⟨w.heap.size + 1, 1, none⟩ = false := (hb1.frozen (p := ⟨w.heap.size + 1, 1, none⟩) (by first | omega | (simp [ext_size]; try omega))).trans (by (simp (maxDischargeDepth := 8) [go_sem, World.cell?_alloc_past, ltk2, ltk3, ltk4, ltk5, ltk6, ltk7, ltk8, ltk9, *]))
  have cf1_2 : v1.frozen? ⟨w.heap.size + 1, 2, none⟩ = false := (hb1.frozen (p := ⟨w.heap.size + 1, 2, none⟩) (by first | omega | (simp [ext_size]; try omega))).trans (by (simp (maxDischargeDepth := 8) [go_sem, World.cell?_alloc_past, ltk2, ltk3, ltk4, ltk5, ltk6, ltk7, ltk8, ltk9, *]))
  have cf1_3 : v1.frozen? ⟨w.heap.size + 1, 3, none⟩ = false := (hb1.frozen (p := ⟨w.heap.size + 1, 3, none⟩) (by first | omega | (simp [ext_size]; try omega))).trans (by (simp (maxDischargeDepth := 8) [go_sem, World.cell?_alloc_past, ltk2, ltk3, ltk4, ltk5, ltk6, ltk7, ltk8, ltk9, *]))
  have cf1_4 : v1.frozen? ⟨w.heap.size + 1, 4, none⟩ = false := (hb1.frozen (p := ⟨w.heap.size + 1, 4, none⟩) (by first | omega | (simp [ext_size]; try omega))).trans (by (simp (maxDischargeDepth := 8) [go_sem, World.cell?_alloc_past, ltk2, ltk3, ltk4, ltk5, ltk6, ltk7, ltk8, ltk9, *]))
  have cf1_5 : v1.frozen? ⟨w.heap.size + 1, 5, none⟩ = false := (hb1.frozen (p := ⟨w.heap.size + 1, 5, none⟩) (by first | omega | (simp [ext_size]; try omega))).trans (by (simp (maxDischargeDepth := 8) [go_sem, World.cell?_alloc_past, ltk2, ltk3, ltk4, ltk5, ltk6, ltk7, ltk8, ltk9, *]))
  have zl1_0 : w.heap.size < v1.heap.size := by omega
  have zl1_1 : w.heap.size + 1 < v1.heap.size := by omega
  have hB1 : Below w.heap.size w v1 := Below.trans (by (repeat (first | with_reducible exact b0 _ | (with_reducible refine bext ?_ _ _) | (with_reducible refine below_drewN ?_ _) | (with_reducible refine Below.drew ?_) | (with_reducible refine bal ?_ _)))) (hb1.mono (by first | omega | (simp [ext_size]; try omega)))
  have zw1 := hB1.size
  clear hb1
  go_wp2_with fail
  with_reducible refine (A2 _).mono ?_
  rintro e v2 ⟨rfl, hb2⟩
  have zz2 := hb2.size
  try simp [ext_size] at zz2
  have cc2_0 : v2.cell? ⟨w.heap.size + 1, 0, none⟩ = some (.int .i64 0) := (hb2.cell (p := ⟨w.heap.size + 1, 0, none⟩) (by first | omega | (simp [ext_size]; try omega))).trans (by (simp (maxDischargeDepth := 8) [go_sem, World.cell?_alloc_past, ltk2, ltk3, ltk4, ltk5, ltk6, ltk7, ltk8, ltk9, *]))
  have cc2_1 : v2.cell? ⟨w.heap.size + 1, 1, none⟩ = some (.int .i64 0) := (hb2.cell (p := ⟨w.heap.size + 1, 1, none⟩) (by first | omega | (simp [ext_size]; try omega))).trans (by (simp (maxDischargeDepth := 8) [go_sem, World.cell?_alloc_past, ltk2, ltk3, ltk4, ltk5, ltk6, ltk7, ltk8, ltk9, *]))
  have cc2_2 : v2.cell? ⟨w.heap.size + 1, 2, none⟩ = some (.int .i64 0) := (hb2.cell (p := ⟨w.heap.size + 1, 2, none⟩) (by first | omega | (simp [ext_size]; try omega))).trans (by (simp (maxDischargeDepth := 8) [go_sem, World.cell?_alloc_past, ltk2, ltk3, ltk4, ltk5, ltk6, ltk7, ltk8, ltk9, *]))
  have cc2_3 : v2.cell? ⟨w.heap.size + 1, 3, none⟩ = some (.int .i64 0) := (hb2.cell (p := ⟨w.heap.size + 1, 3, none⟩) (by first | omega | (simp [ext_size]; try omega))).trans (by (simp (maxDischargeDepth := 8) [go_sem, World.cell?_alloc_past, ltk2, ltk3, ltk4, ltk5, ltk6, ltk7, ltk8, ltk9, *]))
  have cc2_4 : v2.cell? ⟨w.heap.size + 1, 4, none⟩ = some (.int .i64 0) := (hb2.cell (p := ⟨w.heap.size + 1, 4, none⟩) (by first | omega | (simp [ext_size]; try omega))).trans (by (simp (maxDischargeDepth := 8) [go_sem, World.cell?_alloc_past, ltk2, ltk3, ltk4, ltk5, ltk6, ltk7, ltk8, ltk9, *]))
  have cc2_5 : v2.cell? ⟨w.heap.size + 1, 5, none⟩ = some (.int .i64 0) := (hb2.cell (p := ⟨w.heap.size + 1, 5, none⟩) (by first | omega | (simp [ext_size]; try omega))).trans (by (simp (maxDischargeDepth := 8) [go_sem, World.cell?_alloc_past, ltk2, ltk3, ltk4, ltk5, ltk6, ltk7, ltk8, ltk9, *]))
  have cf2_0 : v2.frozen? ⟨w.heap.size + 1, 0, none⟩ = false := (hb2.frozen (p := ⟨w.heap.size + 1, 0, none⟩) (by first | omega | (simp [ext_size]; try omega))).trans (by (simp (maxDischargeDepth := 8) [go_sem, World.cell?_alloc_past, ltk2, ltk3, ltk4, ltk5, ltk6, ltk7, ltk8, ltk9, *]))
  have cf2_1 : v2.frozen? ⟨w.heap.size + 1, 1, none⟩ = false := (hb2.frozen (p := ⟨w.heap.size + 1, 1, none⟩) (by first | omega | (simp [ext_size]; try omega))).trans (by (simp (maxDischargeDepth := 8) [go_sem, World.cell?_alloc_past, ltk2, ltk3, ltk4, ltk5, ltk6, ltk7, ltk8, ltk9, *]))
  have cf2_2 : v2.frozen? ⟨w.heap.size + 1, 2, none⟩ = false := (hb2.frozen (p := ⟨w.heap.size + 1, 2, none⟩) (by first | omega | (simp [ext_size]; try omega))).trans (by (simp (maxDischargeDepth := 8) [go_sem, World.cell?_alloc_past, ltk2, ltk3, ltk4, ltk5, ltk6, ltk7, ltk8, ltk9, *]))
  have cf2_3 : v2.frozen? ⟨w.heap.size + 1, 3, none⟩ = false := (hb2.frozen (p := ⟨w.heap.size + 1, 3, none⟩) (by first | omega | (simp [ext_size]; try omega))).trans (by (simp (maxDischargeDepth := 8) [go_sem, World.cell?_alloc_past, ltk2, ltk3, ltk4, ltk5, ltk6, ltk7, ltk8, ltk9, *]))
  have cf2_4 : v2.frozen? ⟨w.heap.size + 1, 4, none⟩ = false := (hb2.frozen (p := ⟨w.heap.size + 1, 4, none⟩) (by first | omega | (simp [ext_size]; try omega))).trans (by (simp (maxDischargeDepth := 8) [go_sem, World.cell?_alloc_past, ltk2, ltk3, ltk4, ltk5, ltk6, ltk7, ltk8, ltk9, *]))
  have cf2_5 : v2.frozen? ⟨w.heap.size + 1, 5, none⟩ = false := (hb2.frozen (p := ⟨w.heap.size + 1, 5, none⟩) (by first | omega | (simp [ext_size]; try omega))).trans (by (simp (maxDischargeDepth := 8) [go_sem, World.cell?_alloc_past, ltk2, ltk3, ltk4, ltk5, ltk6, ltk7, ltk8, ltk9, *]))
  have zl2_0 : w.heap.size + 1 < v2.heap.size := by omega
  have hB2 : Below w.heap.size w v2 := Below.trans (by (repeat (first | with_reducible exact hB1 | (with_reducible refine bext ?_ _ _) | (with_reducible refine below_drewN ?_ _) | (with_reducible refine Below.drew ?_) | (with_reducible refine bal ?_ _) | (with_reducible refine bset ?_ (by first | omega | (simp <;> omega)) _)))) (hb2.mono (by first | omega | (simp [ext_size]; try omega)))
  have zw2 := hB2.size
  clear hb2
  clear cc1_0 cc1_1 cc1_2 cc1_3 cc1_4 cc1_5 cc1_6 cc1_7 cc1_8 cf1_0 cf1_1 cf1_2 cf1_3 cf1_4 cf1_5 zl1_0 zl1_1 zz1 zw1 hB1
  clear dAl dSt xC xF xS xN xD xL xE xG xX xL1 xL2 xL3 xM0 xM1 xM2 A1 A2
  go_wp2
  refine bodyPost_ret (by simp [results, Try.results18, go_sem, ext_cell, World.cell?_alloc_past, ltk2, ltk3, ltk4, ltk5, ltk6, ltk7, ltk8, ltk9, *]; try rfl) rfl ?_
  exact ⟨rfl, by (repeat (first | with_reducible exact hB2 | (with_reducible refine bext ?_ _ _) | (with_reducible refine below_drewN ?_ _) | (with_reducible refine Below.drew ?_) | (with_reducible refine bal ?_ _) | (with_reducible refine bset ?_ (by first | omega | (simp <;> omega)) _)))⟩

set_option maxRecDepth 100000 in
set_option maxHeartbeats 1600000 in
theorem ref6_At_ok (s : ByteArray) (ra dec t : Int) (h1 : srE s ra dec = 0) (h2 : tkB t = true) (w : World) :
    Calls Try.prog 18 #[.agg #[.string s, .int .i64 ra, .int .i64 dec], .int .i64 t] w fun e w' => e = .returned (.tuple #[.agg #[.int .i64 (dxL dec (ra - t)), .int .i64 (dxH dec (ra - t)), .int .i64 (dyL dec (ra - t)), .int .i64 (dyH dec (ra - t)), .int .i64 (sL dec), .int .i64 (sH dec)], .int .i64 0]) ∧ Below w.heap.size w w' := by
  have A1 := fun w => ref6_Check s ra dec w
  have A2 := fun w => ref6_Tick t w
  obtain ⟨n1, n2, n3, n4, n5⟩ := srE_ok h1
  obtain ⟨t1, t2⟩ := tk_out h2
  have A3 := fun w => ref6_Direction s ra dec t (by omega) (by omega) w
  rw [h1] at A1
  rw [h2] at A2
  clear h1 h2 n1 n2 n3 n4 n5 t1 t2
  generalize dxL dec (ra - t) = y0 at *
  generalize dxH dec (ra - t) = y1 at *
  generalize dyL dec (ra - t) = y2 at *
  generalize dyH dec (ra - t) = y3 at *
  generalize sL dec = y4 at *
  generalize sH dec = y5 at *
  have dAl := dAl; have dSt := dSt; have xC := ext_cell; have xF := ext_frozen; have xS := ext_set; have xN := ext_drewN; have xD := ext_drew; have xL := ext_lt; have xE := ext_ne; have xG := ext_nr; have xX := ext_ext; have xL1 := ext_lt1; have xL2 := ext_lt2; have xL3 := ext_lt3; have xM0 := ext_le0; have xM1 := ext_le1; have xM2 := ext_le2
  go_enter Try.func18, Try.ntmps18
  go_wp2_with fail
  with_reducible refine (A1 _).mono ?_
  rintro e v1 ⟨rfl, hb1⟩
  have zz1 := hb1.size
  try simp [ext_size] at zz1
  have cc1_0 : v1.cell? ⟨w.heap.size, 0, none⟩ = some (.string s) := (hb1.cell (p := ⟨w.heap.size, 0, none⟩) (by first | omega | (simp [ext_size]; try omega))).trans (by (simp (maxDischargeDepth := 8) [go_sem, World.cell?_alloc_past, ltk2, ltk3, ltk4, ltk5, ltk6, ltk7, ltk8, ltk9, *]))
  have cc1_1 : v1.cell? ⟨w.heap.size, 1, none⟩ = some (.int .i64 ra) := (hb1.cell (p := ⟨w.heap.size, 1, none⟩) (by first | omega | (simp [ext_size]; try omega))).trans (by (simp (maxDischargeDepth := 8) [go_sem, World.cell?_alloc_past, ltk2, ltk3, ltk4, ltk5, ltk6, ltk7, ltk8, ltk9, *]))
  have cc1_2 : v1.cell? ⟨w.heap.size, 2, none⟩ = some (.int .i64 dec) := (hb1.cell (p := ⟨w.heap.size, 2, none⟩) (by first | omega | (simp [ext_size]; try omega))).trans (by (simp (maxDischargeDepth := 8) [go_sem, World.cell?_alloc_past, ltk2, ltk3, ltk4, ltk5, ltk6, ltk7, ltk8, ltk9, *]))
  have cc1_3 : v1.cell? ⟨w.heap.size + 1, 0, none⟩ = some (.int .i64 0) := (hb1.cell (p := ⟨w.heap.size + 1, 0, none⟩) (by first | omega | (simp [ext_size]; try omega))).trans (by (simp (maxDischargeDepth := 8) [go_sem, World.cell?_alloc_past, ltk2, ltk3, ltk4, ltk5, ltk6, ltk7, ltk8, ltk9, *]))
  have cc1_4 : v1.cell? ⟨w.heap.size + 1, 1, none⟩ = some (.int .i64 0) := (hb1.cell (p := ⟨w.heap.size + 1, 1, none⟩) (by first | omega | (simp [ext_size]; try omega))).trans (by (simp (maxDischargeDepth := 8) [go_sem, World.cell?_alloc_past, ltk2, ltk3, ltk4, ltk5, ltk6, ltk7, ltk8, ltk9, *]))
  have cc1_5 : v1.cell? ⟨w.heap.size + 1, 2, none⟩ = some (.int .i64 0) := (hb1.cell (p := ⟨w.heap.size + 1, 2, none⟩) (by first | omega | (simp [ext_size]; try omega))).trans (by (simp (maxDischargeDepth := 8) [go_sem, World.cell?_alloc_past, ltk2, ltk3, ltk4, ltk5, ltk6, ltk7, ltk8, ltk9, *]))
  have cc1_6 : v1.cell? ⟨w.heap.size + 1, 3, none⟩ = some (.int .i64 0) := (hb1.cell (p := ⟨w.heap.size + 1, 3, none⟩) (by first | omega | (simp [ext_size]; try omega))).trans (by (simp (maxDischargeDepth := 8) [go_sem, World.cell?_alloc_past, ltk2, ltk3, ltk4, ltk5, ltk6, ltk7, ltk8, ltk9, *]))
  have cc1_7 : v1.cell? ⟨w.heap.size + 1, 4, none⟩ = some (.int .i64 0) := (hb1.cell (p := ⟨w.heap.size + 1, 4, none⟩) (by first | omega | (simp [ext_size]; try omega))).trans (by (simp (maxDischargeDepth := 8) [go_sem, World.cell?_alloc_past, ltk2, ltk3, ltk4, ltk5, ltk6, ltk7, ltk8, ltk9, *]))
  have cc1_8 : v1.cell? ⟨w.heap.size + 1, 5, none⟩ = some (.int .i64 0) := (hb1.cell (p := ⟨w.heap.size + 1, 5, none⟩) (by first | omega | (simp [ext_size]; try omega))).trans (by (simp (maxDischargeDepth := 8) [go_sem, World.cell?_alloc_past, ltk2, ltk3, ltk4, ltk5, ltk6, ltk7, ltk8, ltk9, *]))
  have cf1_0 : v1.frozen? ⟨w.heap.size + 1, 0, none⟩ = false := (hb1.frozen (p := ⟨w.heap.size + 1, 0, none⟩) (by first | omega | (simp [ext_size]; try omega))).trans (by (simp (maxDischargeDepth := 8) [go_sem, World.cell?_alloc_past, ltk2, ltk3, ltk4, ltk5, ltk6, ltk7, ltk8, ltk9, *]))
  have cf1_1 : v1.frozen? ⟨w.heap.size + 1, 1, none⟩ = false := (hb1.frozen (p := ⟨w.heap.size + 1, 1, none⟩) (by first | omega | (simp [ext_size]; try omega))).trans (by (simp (maxDischargeDepth := 8) [go_sem, World.cell?_alloc_past, ltk2, ltk3, ltk4, ltk5, ltk6, ltk7, ltk8, ltk9, *]))
  have cf1_2 : v1.frozen? ⟨w.heap.size + 1, 2, none⟩ = false := (hb1.frozen (p := ⟨w.heap.size + 1, 2, none⟩) (by first | omega | (simp [ext_size]; try omega))).trans (by (simp (maxDischargeDepth := 8) [go_sem, World.cell?_alloc_past, ltk2, ltk3, ltk4, ltk5, ltk6, ltk7, ltk8, ltk9, *]))
  have cf1_3 : v1.frozen? ⟨w.heap.size + 1, 3, none⟩ = false := (hb1.frozen (p := ⟨w.heap.size + 1, 3, none⟩) (by first | omega | (simp [ext_size]; try omega))).trans (by (simp (maxDischargeDepth := 8) [go_sem, World.cell?_alloc_past, ltk2, ltk3, ltk4, ltk5, ltk6, ltk7, ltk8, ltk9, *]))
  have cf1_4 : v1.frozen? ⟨w.heap.size + 1, 4, none⟩ = false := (hb1.frozen (p := ⟨w.heap.size + 1, 4, none⟩) (by first | omega | (simp [ext_size]; try omega))).trans (by (simp (maxDischargeDepth := 8) [go_sem, World.cell?_alloc_past, ltk2, ltk3, ltk4, ltk5, ltk6, ltk7, ltk8, ltk9, *]))
  have cf1_5 : v1.frozen? ⟨w.heap.size + 1, 5, none⟩ = false := (hb1.frozen (p := ⟨w.heap.size + 1, 5, none⟩) (by first | omega | (simp [ext_size]; try omega))).trans (by (simp (maxDischargeDepth := 8) [go_sem, World.cell?_alloc_past, ltk2, ltk3, ltk4, ltk5, ltk6, ltk7, ltk8, ltk9, *]))
  have zl1_0 : w.heap.size < v1.heap.size := by omega
  have zl1_1 : w.heap.size + 1 < v1.heap.size := by omega
  have hB1 : Below w.heap.size w v1 := Below.trans (by (repeat (first | with_reducible exact b0 _ | (with_reducible refine bext ?_ _ _) | (with_reducible refine below_drewN ?_ _) | (with_reducible refine Below.drew ?_) | (with_reducible refine bal ?_ _)))) (hb1.mono (by first | omega | (simp [ext_size]; try omega)))
  have zw1 := hB1.size
  clear hb1
  go_wp2_with fail
  with_reducible refine (A2 _).mono ?_
  rintro e v2 ⟨rfl, hb2⟩
  have zz2 := hb2.size
  try simp [ext_size] at zz2
  have cc2_0 : v2.cell? ⟨w.heap.size, 0, none⟩ = some (.string s) := (hb2.cell (p := ⟨w.heap.size, 0, none⟩) (by first | omega | (simp [ext_size]; try omega))).trans (by (simp (maxDischargeDepth := 8) [go_sem, World.cell?_alloc_past, ltk2, ltk3, ltk4, ltk5, ltk6, ltk7, ltk8, ltk9, *]))
  have cc2_1 : v2.cell? ⟨w.heap.size, 1, none⟩ = some (.int .i64 ra) := (hb2.cell (p := ⟨w.heap.size, 1, none⟩) (by first | omega | (simp [ext_size]; try omega))).trans (by (simp (maxDischargeDepth := 8) [go_sem, World.cell?_alloc_past, ltk2, ltk3, ltk4, ltk5, ltk6, ltk7, ltk8, ltk9, *]))
  have cc2_2 : v2.cell? ⟨w.heap.size, 2, none⟩ = some (.int .i64 dec) := (hb2.cell (p := ⟨w.heap.size, 2, none⟩) (by first | omega | (simp [ext_size]; try omega))).trans (by (simp (maxDischargeDepth := 8) [go_sem, World.cell?_alloc_past, ltk2, ltk3, ltk4, ltk5, ltk6, ltk7, ltk8, ltk9, *]))
  have cc2_3 : v2.cell? ⟨w.heap.size + 1, 0, none⟩ = some (.int .i64 0) := (hb2.cell (p := ⟨w.heap.size + 1, 0, none⟩) (by first | omega | (simp [ext_size]; try omega))).trans (by (simp (maxDischargeDepth := 8) [go_sem, World.cell?_alloc_past, ltk2, ltk3, ltk4, ltk5, ltk6, ltk7, ltk8, ltk9, *]))
  have cc2_4 : v2.cell? ⟨w.heap.size + 1, 1, none⟩ = some (.int .i64 0) := (hb2.cell (p := ⟨w.heap.size + 1, 1, none⟩) (by first | omega | (simp [ext_size]; try omega))).trans (by (simp (maxDischargeDepth := 8) [go_sem, World.cell?_alloc_past, ltk2, ltk3, ltk4, ltk5, ltk6, ltk7, ltk8, ltk9, *]))
  have cc2_5 : v2.cell? ⟨w.heap.size + 1, 2, none⟩ = some (.int .i64 0) := (hb2.cell (p := ⟨w.heap.size + 1, 2, none⟩) (by first | omega | (simp [ext_size]; try omega))).trans (by (simp (maxDischargeDepth := 8) [go_sem, World.cell?_alloc_past, ltk2, ltk3, ltk4, ltk5, ltk6, ltk7, ltk8, ltk9, *]))
  have cc2_6 : v2.cell? ⟨w.heap.size + 1, 3, none⟩ = some (.int .i64 0) := (hb2.cell (p := ⟨w.heap.size + 1, 3, none⟩) (by first | omega | (simp [ext_size]; try omega))).trans (by (simp (maxDischargeDepth := 8) [go_sem, World.cell?_alloc_past, ltk2, ltk3, ltk4, ltk5, ltk6, ltk7, ltk8, ltk9, *]))
  have cc2_7 : v2.cell? ⟨w.heap.size + 1, 4, none⟩ = some (.int .i64 0) := (hb2.cell (p := ⟨w.heap.size + 1, 4, none⟩) (by first | omega | (simp [ext_size]; try omega))).trans (by (simp (maxDischargeDepth := 8) [go_sem, World.cell?_alloc_past, ltk2, ltk3, ltk4, ltk5, ltk6, ltk7, ltk8, ltk9, *]))
  have cc2_8 : v2.cell? ⟨w.heap.size + 1, 5, none⟩ = some (.int .i64 0) := (hb2.cell (p := ⟨w.heap.size + 1, 5, none⟩) (by first | omega | (simp [ext_size]; try omega))).trans (by (simp (maxDischargeDepth := 8) [go_sem, World.cell?_alloc_past, ltk2, ltk3, ltk4, ltk5, ltk6, ltk7, ltk8, ltk9, *]))
  have cf2_0 : v2.frozen? ⟨w.heap.size + 1, 0, none⟩ = false := (hb2.frozen (p := ⟨w.heap.size + 1, 0, none⟩) (by first | omega | (simp [ext_size]; try omega))).trans (by (simp (maxDischargeDepth := 8) [go_sem, World.cell?_alloc_past, ltk2, ltk3, ltk4, ltk5, ltk6, ltk7, ltk8, ltk9, *]))
  have cf2_1 : v2.frozen? ⟨w.heap.size + 1, 1, none⟩ = false := (hb2.frozen (p := ⟨w.heap.size + 1, 1, none⟩) (by first | omega | (simp [ext_size]; try omega))).trans (by (simp (maxDischargeDepth := 8) [go_sem, World.cell?_alloc_past, ltk2, ltk3, ltk4, ltk5, ltk6, ltk7, ltk8, ltk9, *]))
  have cf2_2 : v2.frozen? ⟨w.heap.size + 1, 2, none⟩ = false := (hb2.frozen (p := ⟨w.heap.size + 1, 2, none⟩) (by first | omega | (simp [ext_size]; try omega))).trans (by (simp (maxDischargeDepth := 8) [go_sem, World.cell?_alloc_past, ltk2, ltk3, ltk4, ltk5, ltk6, ltk7, ltk8, ltk9, *]))
  have cf2_3 : v2.frozen? ⟨w.heap.size + 1, 3, none⟩ = false := (hb2.frozen (p := ⟨w.heap.size + 1, 3, none⟩) (by first | omega | (simp [ext_size]; try omega))).trans (by (simp (maxDischargeDepth := 8) [go_sem, World.cell?_alloc_past, ltk2, ltk3, ltk4, ltk5, ltk6, ltk7, ltk8, ltk9, *]))
  have cf2_4 : v2.frozen? ⟨w.heap.size + 1, 4, none⟩ = false := (hb2.frozen (p := ⟨w.heap.size + 1, 4, none⟩) (by first | omega | (simp [ext_size]; try omega))).trans (by (simp (maxDischargeDepth := 8) [go_sem, World.cell?_alloc_past, ltk2, ltk3, ltk4, ltk5, ltk6, ltk7, ltk8, ltk9, *]))
  have cf2_5 : v2.frozen? ⟨w.heap.size + 1, 5, none⟩ = false := (hb2.frozen (p := ⟨w.heap.size + 1, 5, none⟩) (by first | omega | (simp [ext_size]; try omega))).trans (by (simp (maxDischargeDepth := 8) [go_sem, World.cell?_alloc_past, ltk2, ltk3, ltk4, ltk5, ltk6, ltk7, ltk8, ltk9, *]))
  have zl2_0 : w.heap.size < v2.heap.size := by omega
  have zl2_1 : w.heap.size + 1 < v2.heap.size := by omega
  have hB2 : Below w.heap.size w v2 := Below.trans (by (repeat (first | with_reducible exact hB1 | (with_reducible refine bext ?_ _ _) | (with_reducible refine below_drewN ?_ _) | (with_reducible refine Below.drew ?_) | (with_reducible refine bal ?_ _) | (with_reducible refine bset ?_ (by first | omega | (simp <;> omega)) _)))) (hb2.mono (by first | omega | (simp [ext_size]; try omega)))
  have zw2 := hB2.size
  clear hb2
  clear cc1_0 cc1_1 cc1_2 cc1_3 cc1_4 cc1_5 cc1_6 cc1_7 cc1_8 cf1_0 cf1_1 cf1_2 cf1_3 cf1_4 cf1_5 zl1_0 zl1_1 zz1 zw1 hB1
  go_wp2_with fail
  with_reducible refine (A3 _).mono ?_
  rintro e v3 ⟨rfl, hb3⟩
  have zz3 := hb3.size
  try simp [ext_size] at zz3
  have cc3_0 : v3.cell? ⟨w.heap.size + 1, 0, none⟩ = some (.int .i64 0) := (hb3.cell (p := ⟨w.heap.size + 1, 0, none⟩) (by first | omega | (simp [ext_size]; try omega))).trans (by (simp (maxDischargeDepth := 8) [go_sem, World.cell?_alloc_past, ltk2, ltk3, ltk4, ltk5, ltk6, ltk7, ltk8, ltk9, *]))
  have cc3_1 : v3.cell? ⟨w.heap.size + 1, 1, none⟩ = some (.int .i64 0) := (hb3.cell (p := ⟨w.heap.size + 1, 1, none⟩) (by first | omega | (simp [ext_size]; try omega))).trans (by (simp (maxDischargeDepth := 8) [go_sem, World.cell?_alloc_past, ltk2, ltk3, ltk4, ltk5, ltk6, ltk7, ltk8, ltk9, *]))
  have cc3_2 : v3.cell? ⟨w.heap.size + 1, 2, none⟩ = some (.int .i64 0) := (hb3.cell (p := ⟨w.heap.size + 1, 2, none⟩) (by first | omega | (simp [ext_size]; try omega))).trans (by (simp (maxDischargeDepth := 8) [go_sem, World.cell?_alloc_past, ltk2, ltk3, ltk4, ltk5, ltk6, ltk7, ltk8, ltk9, *]))
  have cc3_3 : v3.cell? ⟨w.heap.size + 1, 3, none⟩ = some (.int .i64 0) := (hb3.cell (p := ⟨w.heap.size + 1, 3, none⟩) (by first | omega | (simp [ext_size]; try omega))).trans (by (simp (maxDischargeDepth := 8) [go_sem, World.cell?_alloc_past, ltk2, ltk3, ltk4, ltk5, ltk6, ltk7, ltk8, ltk9, *]))
  have cc3_4 : v3.cell? ⟨w.heap.size + 1, 4, none⟩ = some (.int .i64 0) := (hb3.cell (p := ⟨w.heap.size + 1, 4, none⟩) (by first | omega | (simp [ext_size]; try omega))).trans (by (simp (maxDischargeDepth := 8) [go_sem, World.cell?_alloc_past, ltk2, ltk3, ltk4, ltk5, ltk6, ltk7, ltk8, ltk9, *]))
  have cc3_5 : v3.cell? ⟨w.heap.size + 1, 5, none⟩ = some (.int .i64 0) := (hb3.cell (p := ⟨w.heap.size + 1, 5, none⟩) (by first | omega | (simp [ext_size]; try omega))).trans (by (simp (maxDischargeDepth := 8) [go_sem, World.cell?_alloc_past, ltk2, ltk3, ltk4, ltk5, ltk6, ltk7, ltk8, ltk9, *]))
  have cf3_0 : v3.frozen? ⟨w.heap.size + 1, 0, none⟩ = false := (hb3.frozen (p := ⟨w.heap.size + 1, 0, none⟩) (by first | omega | (simp [ext_size]; try omega))).trans (by (simp (maxDischargeDepth := 8) [go_sem, World.cell?_alloc_past, ltk2, ltk3, ltk4, ltk5, ltk6, ltk7, ltk8, ltk9, *]))
  have cf3_1 : v3.frozen? ⟨w.heap.size + 1, 1, none⟩ = false := (hb3.frozen (p := ⟨w.heap.size + 1, 1, none⟩) (by first | omega | (simp [ext_size]; try omega))).trans (by (simp (maxDischargeDepth := 8) [go_sem, World.cell?_alloc_past, ltk2, ltk3, ltk4, ltk5, ltk6, ltk7, ltk8, ltk9, *]))
  have cf3_2 : v3.frozen? ⟨w.heap.size + 1, 2, none⟩ = false := (hb3.frozen (p := ⟨w.heap.size + 1, 2, none⟩) (by first | omega | (simp [ext_size]; try omega))).trans (by (simp (maxDischargeDepth := 8) [go_sem, World.cell?_alloc_past, ltk2, ltk3, ltk4, ltk5, ltk6, ltk7, ltk8, ltk9, *]))
  have cf3_3 : v3.frozen? ⟨w.heap.size + 1, 3, none⟩ = false := (hb3.frozen (p := ⟨w.heap.size + 1, 3, none⟩) (by first | omega | (simp [ext_size]; try omega))).trans (by (simp (maxDischargeDepth := 8) [go_sem, World.cell?_alloc_past, ltk2, ltk3, ltk4, ltk5, ltk6, ltk7, ltk8, ltk9, *]))
  have cf3_4 : v3.frozen? ⟨w.heap.size + 1, 4, none⟩ = false := (hb3.frozen (p := ⟨w.heap.size + 1, 4, none⟩) (by first | omega | (simp [ext_size]; try omega))).trans (by (simp (maxDischargeDepth := 8) [go_sem, World.cell?_alloc_past, ltk2, ltk3, ltk4, ltk5, ltk6, ltk7, ltk8, ltk9, *]))
  have cf3_5 : v3.frozen? ⟨w.heap.size + 1, 5, none⟩ = false := (hb3.frozen (p := ⟨w.heap.size + 1, 5, none⟩) (by first | omega | (simp [ext_size]; try omega))).trans (by (simp (maxDischargeDepth := 8) [go_sem, World.cell?_alloc_past, ltk2, ltk3, ltk4, ltk5, ltk6, ltk7, ltk8, ltk9, *]))
  have zl3_0 : w.heap.size + 1 < v3.heap.size := by omega
  have hB3 : Below w.heap.size w v3 := Below.trans (by (repeat (first | with_reducible exact hB2 | (with_reducible refine bext ?_ _ _) | (with_reducible refine below_drewN ?_ _) | (with_reducible refine Below.drew ?_) | (with_reducible refine bal ?_ _) | (with_reducible refine bset ?_ (by first | omega | (simp <;> omega)) _)))) (hb3.mono (by first | omega | (simp [ext_size]; try omega)))
  have zw3 := hB3.size
  clear hb3
  clear cc2_0 cc2_1 cc2_2 cc2_3 cc2_4 cc2_5 cc2_6 cc2_7 cc2_8 cf2_0 cf2_1 cf2_2 cf2_3 cf2_4 cf2_5 zl2_0 zl2_1 zz2 zw2 hB2
  clear dAl dSt xC xF xS xN xD xL xE xG xX xL1 xL2 xL3 xM0 xM1 xM2 A1 A2
  go_wp2
  refine bodyPost_ret (by simp [results, Try.results18, go_sem, ext_cell, World.cell?_alloc_past, ltk2, ltk3, ltk4, ltk5, ltk6, ltk7, ltk8, ltk9, *]; try rfl) rfl ?_
  exact ⟨rfl, by (repeat (first | with_reducible exact hB3 | (with_reducible refine bext ?_ _ _) | (with_reducible refine below_drewN ?_ _) | (with_reducible refine Below.drew ?_) | (with_reducible refine bal ?_ _) | (with_reducible refine bset ?_ (by first | omega | (simp <;> omega)) _)))⟩

theorem ref6_At (s : ByteArray) (ra dec t : Int) (w : World) :
    Calls Try.prog 18 #[.agg #[.string s, .int .i64 ra, .int .i64 dec], .int .i64 t] w fun e w' => e = .returned (.tuple #[.agg #[.int .i64 (pz (atE s ra dec t) (dxL dec (ra - t))), .int .i64 (pz (atE s ra dec t) (dxH dec (ra - t))), .int .i64 (pz (atE s ra dec t) (dyL dec (ra - t))), .int .i64 (pz (atE s ra dec t) (dyH dec (ra - t))), .int .i64 (pz (atE s ra dec t) (sL dec)), .int .i64 (pz (atE s ra dec t) (sH dec))], .int .i64 (atE s ra dec t)]) ∧ Below w.heap.size w w' := by
  by_cases h1 : srE s ra dec = 0
  · by_cases h2 : tkB t = true
    · have e : atE s ra dec t = 0 := by rw [atE, if_pos h1, if_pos h2]
      rw [e, pz0, pz0, pz0, pz0, pz0, pz0]
      exact ref6_At_ok s ra dec t h1 h2 w
    · have e : atE s ra dec t = 2 := by rw [atE, if_pos h1, if_neg h2]
      rw [e, pz2, pz2, pz2, pz2, pz2, pz2]
      exact ref6_At_arg s ra dec t h1 (by simpa using h2) w
  · have e : atE s ra dec t = 8 := by rw [atE, if_neg h1]
    rw [e, pz8, pz8, pz8, pz8, pz8, pz8]
    exact ref6_At_bad s ra dec t ((srE_or s ra dec).resolve_left h1) w
end Go.Proofs.Ytmjbeplcabomdaa
