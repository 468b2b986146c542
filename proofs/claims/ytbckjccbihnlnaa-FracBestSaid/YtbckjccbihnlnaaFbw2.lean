/-
  The law on the nearest fraction, walked: where the other one has a greater denominator.
-/
import Derived.Test.YtbckjccbihnlnaaFan
import Derived.Test.YtbckjccbihnlnaaFva
import Derived.Test.YtbckjccbihnlnaaFbn
import Derived.Test.YtbckjccbihnlnaaFyz
import Derived.Test.YtbckjccbihnlnaaFbw1
namespace Go.Proofs.Ytbckjccbihnlnaa
open Go.RowKit
set_option linter.unusedVariables false
set_option linter.unusedSimpArgs false

set_option maxRecDepth 100000 in
set_option maxHeartbeats 6400000 in
theorem best_far (n1 d1 n2 d2 most : Int) (o1 : okF n1 d1 = true) (o2 : okF n2 d2 = true) (m1 : 1 ≤ most) (m2 : most ≤ 1000000000000000000) (hf : (most < d2) = True) (w : World) :
    Calls Try.prog 5 #[.agg #[.int .i64 n1, .int .i64 d1], .agg #[.int .i64 n2, .int .i64 d2], .int .i64 most] w fun e w' => e = .returned (.bool true) ∧ Below w.heap.size w w' := by
  obtain ⟨a3, a4, a1, a2, a5⟩ := okF_out o1
  obtain ⟨c3, c4, c1, c2, c5⟩ := okF_out o2
  have A0 := fun w => law_valid n1 d1 n2 d2 (by omega) (by omega) (by omega) (by omega) (by omega) (by omega) (by omega) (by omega) w
  rw [decide_eq_true (show okF n1 d1 = true ∧ okF n2 d2 = true from ⟨o1, o2⟩)] at A0
  have A1 := fun w => near_best n1 d1 most o1 m1 m2 w
  have A2 := fun w => near_own n1 d1 o1 w
  have AA := fun w => law_alive w
  have m3 : (most < 1) = False := eq_false (by omega)
  have m4 : (1000000000000000000 < most) = False := eq_false (by omega)
  have O1 := Lib.hid o1
  have O2 := Lib.hid o2
  clear o1 o2 a5 c5
  have dAl := dAl; have dSt := dSt; have xC := ext_cell; have xF := ext_frozen; have xS := ext_set; have xN := ext_drewN; have xD := ext_drew; have xL := ext_lt; have xE := ext_ne; have xG := ext_nr; have xX := ext_ext; have xL1 := ext_lt1; have xL2 := ext_lt2; have xL3 := ext_lt3; have xM0 := ext_le0; have xM1 := ext_le1; have xM2 := ext_le2
  go_enter Try.func5, Try.ntmps5
  go_wp2_with fail
  with_reducible refine (A0 _).mono ?_
  rintro e w1 ⟨rfl, hb⟩
  have HB1 : Below w.heap.size w w1 := by
    refine Below.trans ?_ (hb.mono ?_)
    · (repeat (first | exact b0 _ | (refine bal ?_ _) | (refine below_drewN ?_ _) | (refine Below.drew ?_)))
    · first | omega | (simp <;> omega)
  have zs1 : w.heap.size + 2 < w1.heap.size + 1 := by have := hb.size; (try simp at this); omega
  have ka : w1.cell? ⟨w.heap.size, 0, none⟩ = some (.int .i64 n1) := (hb.cell (by first | omega | (simp <;> omega))).trans (by (simp (maxDischargeDepth := 8) [go_sem, World.cell?_alloc_past, ltk2, ltk3, ltk4, ltk5, ltk6, ltk7, ltk8, ltk9, *]))
  have kb : w1.cell? ⟨w.heap.size, 1, none⟩ = some (.int .i64 d1) := (hb.cell (by first | omega | (simp <;> omega))).trans (by (simp (maxDischargeDepth := 8) [go_sem, World.cell?_alloc_past, ltk2, ltk3, ltk4, ltk5, ltk6, ltk7, ltk8, ltk9, *]))
  have kc : w1.cell? ⟨w.heap.size + 1, 0, none⟩ = some (.int .i64 n2) := (hb.cell (by first | omega | (simp <;> omega))).trans (by (simp (maxDischargeDepth := 8) [go_sem, World.cell?_alloc_past, ltk2, ltk3, ltk4, ltk5, ltk6, ltk7, ltk8, ltk9, *]))
  have kd : w1.cell? ⟨w.heap.size + 1, 1, none⟩ = some (.int .i64 d2) := (hb.cell (by first | omega | (simp <;> omega))).trans (by (simp (maxDischargeDepth := 8) [go_sem, World.cell?_alloc_past, ltk2, ltk3, ltk4, ltk5, ltk6, ltk7, ltk8, ltk9, *]))
  clear hb
  have zy1 : w.heap.size < w1.heap.size := by omega
  have zx1 : w.heap.size + 1 < w1.heap.size := by omega
  go_wp2_with fail
  with_reducible refine (A1 _).mono ?_
  rintro e w2 ⟨P, Q, hBP, rfl, hb⟩
  have hPQ := best_ok n1 d1 most P Q O1.out (by omega) (by omega) hBP
  obtain ⟨p3, p4, p1, p2, p5⟩ := okF_out hPQ
  have hQ : Q ≤ most := hBP.2.1
  have A3 := fun w => ref_Check P Q (by omega) (by omega) (by omega) (by omega) w
  rw [show chkI P Q = 0 by rw [chkI, if_pos hPQ]] at A3
  have m5 : (most < Q) = False := eq_false (by omega)
  have HP := Lib.hid hPQ
  have HBP := Lib.hid hBP
  clear hBP hPQ p5 A1
  have HB2 : Below w.heap.size w w2 := by
    refine Below.trans ?_ (hb.mono ?_)
    · (repeat (first | exact HB1 | (refine bal ?_ _) | (refine below_drewN ?_ _) | (refine Below.drew ?_)))
    · first | omega | (simp <;> omega)
  have zs2 : w1.heap.size + 0 < w2.heap.size + 1 := by have := hb.size; (try simp at this); omega
  replace ka : w2.cell? ⟨w.heap.size, 0, none⟩ = some (.int .i64 n1) := (hb.cell (by first | omega | (simp <;> omega))).trans (by (simp (maxDischargeDepth := 8) [go_sem, World.cell?_alloc_past, ltk2, ltk3, ltk4, ltk5, ltk6, ltk7, ltk8, ltk9, *]))
  replace kb : w2.cell? ⟨w.heap.size, 1, none⟩ = some (.int .i64 d1) := (hb.cell (by first | omega | (simp <;> omega))).trans (by (simp (maxDischargeDepth := 8) [go_sem, World.cell?_alloc_past, ltk2, ltk3, ltk4, ltk5, ltk6, ltk7, ltk8, ltk9, *]))
  replace kc : w2.cell? ⟨w.heap.size + 1, 0, none⟩ = some (.int .i64 n2) := (hb.cell (by first | omega | (simp <;> omega))).trans (by (simp (maxDischargeDepth := 8) [go_sem, World.cell?_alloc_past, ltk2, ltk3, ltk4, ltk5, ltk6, ltk7, ltk8, ltk9, *]))
  replace kd : w2.cell? ⟨w.heap.size + 1, 1, none⟩ = some (.int .i64 d2) := (hb.cell (by first | omega | (simp <;> omega))).trans (by (simp (maxDischargeDepth := 8) [go_sem, World.cell?_alloc_past, ltk2, ltk3, ltk4, ltk5, ltk6, ltk7, ltk8, ltk9, *]))
  clear hb HB1
  have zy2 : w.heap.size < w2.heap.size := by omega
  have zx2 : w.heap.size + 1 < w2.heap.size := by omega
  go_wp2_with fail
  with_reducible refine (A2 _).mono ?_
  rintro e w3 ⟨rfl, hb⟩
  have HB3 : Below w.heap.size w w3 := by
    refine Below.trans ?_ (hb.mono ?_)
    · (repeat (first | exact HB2 | (refine bal ?_ _) | (refine below_drewN ?_ _) | (refine Below.drew ?_)))
    · first | omega | (simp <;> omega)
  have zs3 : w2.heap.size + 1 < w3.heap.size + 1 := by have := hb.size; (try simp at this); omega
  replace ka : w3.cell? ⟨w.heap.size, 0, none⟩ = some (.int .i64 n1) := (hb.cell (by first | omega | (simp <;> omega))).trans (by (simp (maxDischargeDepth := 8) [go_sem, World.cell?_alloc_past, ltk2, ltk3, ltk4, ltk5, ltk6, ltk7, ltk8, ltk9, *]))
  replace kb : w3.cell? ⟨w.heap.size, 1, none⟩ = some (.int .i64 d1) := (hb.cell (by first | omega | (simp <;> omega))).trans (by (simp (maxDischargeDepth := 8) [go_sem, World.cell?_alloc_past, ltk2, ltk3, ltk4, ltk5, ltk6, ltk7, ltk8, ltk9, *]))
  replace kc : w3.cell? ⟨w.heap.size + 1, 0, none⟩ = some (.int .i64 n2) := (hb.cell (by first | omega | (simp <;> omega))).trans (by (simp (maxDischargeDepth := 8) [go_sem, World.cell?_alloc_past, ltk2, ltk3, ltk4, ltk5, ltk6, ltk7, ltk8, ltk9, *]))
  replace kd : w3.cell? ⟨w.heap.size + 1, 1, none⟩ = some (.int .i64 d2) := (hb.cell (by first | omega | (simp <;> omega))).trans (by (simp (maxDischargeDepth := 8) [go_sem, World.cell?_alloc_past, ltk2, ltk3, ltk4, ltk5, ltk6, ltk7, ltk8, ltk9, *]))
  have r2_0 : w3.cell? ⟨w2.heap.size, 0, none⟩ = some (.int .i64 P) := (hb.cell (by first | omega | (simp <;> omega))).trans (by (simp (maxDischargeDepth := 8) [go_sem, World.cell?_alloc_past, ltk2, ltk3, ltk4, ltk5, ltk6, ltk7, ltk8, ltk9, *]))
  have r2_1 : w3.cell? ⟨w2.heap.size, 1, none⟩ = some (.int .i64 Q) := (hb.cell (by first | omega | (simp <;> omega))).trans (by (simp (maxDischargeDepth := 8) [go_sem, World.cell?_alloc_past, ltk2, ltk3, ltk4, ltk5, ltk6, ltk7, ltk8, ltk9, *]))
  clear hb HB2
  have zy3 : w.heap.size < w3.heap.size := by omega
  have zx3 : w.heap.size + 1 < w3.heap.size := by omega
  have zz_w2_3 : w2.heap.size < w3.heap.size := by omega
  go_wp2_with fail
  with_reducible refine (A3 _).mono ?_
  rintro e w4 ⟨rfl, hb⟩
  have HB4 : Below w.heap.size w w4 := by
    refine Below.trans ?_ (hb.mono ?_)
    · (repeat (first | exact HB3 | (refine bal ?_ _) | (refine below_drewN ?_ _) | (refine Below.drew ?_)))
    · first | omega | (simp <;> omega)
  have zs4 : w3.heap.size + 1 < w4.heap.size + 1 := by have := hb.size; (try simp at this); omega
  replace ka : w4.cell? ⟨w.heap.size, 0, none⟩ = some (.int .i64 n1) := (hb.cell (by first | omega | (simp <;> omega))).trans (by (simp (maxDischargeDepth := 8) [go_sem, World.cell?_alloc_past, ltk2, ltk3, ltk4, ltk5, ltk6, ltk7, ltk8, ltk9, *]))
  replace kb : w4.cell? ⟨w.heap.size, 1, none⟩ = some (.int .i64 d1) := (hb.cell (by first | omega | (simp <;> omega))).trans (by (simp (maxDischargeDepth := 8) [go_sem, World.cell?_alloc_past, ltk2, ltk3, ltk4, ltk5, ltk6, ltk7, ltk8, ltk9, *]))
  replace kc : w4.cell? ⟨w.heap.size + 1, 0, none⟩ = some (.int .i64 n2) := (hb.cell (by first | omega | (simp <;> omega))).trans (by (simp (maxDischargeDepth := 8) [go_sem, World.cell?_alloc_past, ltk2, ltk3, ltk4, ltk5, ltk6, ltk7, ltk8, ltk9, *]))
  replace kd : w4.cell? ⟨w.heap.size + 1, 1, none⟩ = some (.int .i64 d2) := (hb.cell (by first | omega | (simp <;> omega))).trans (by (simp (maxDischargeDepth := 8) [go_sem, World.cell?_alloc_past, ltk2, ltk3, ltk4, ltk5, ltk6, ltk7, ltk8, ltk9, *]))
  replace r2_0 : w4.cell? ⟨w2.heap.size, 0, none⟩ = some (.int .i64 P) := (hb.cell (by first | omega | (simp <;> omega))).trans (by (simp (maxDischargeDepth := 8) [go_sem, World.cell?_alloc_past, ltk2, ltk3, ltk4, ltk5, ltk6, ltk7, ltk8, ltk9, *]))
  replace r2_1 : w4.cell? ⟨w2.heap.size, 1, none⟩ = some (.int .i64 Q) := (hb.cell (by first | omega | (simp <;> omega))).trans (by (simp (maxDischargeDepth := 8) [go_sem, World.cell?_alloc_past, ltk2, ltk3, ltk4, ltk5, ltk6, ltk7, ltk8, ltk9, *]))
  have r3_0 : w4.cell? ⟨w3.heap.size, 0, none⟩ = some (.int .i64 n1) := (hb.cell (by first | omega | (simp <;> omega))).trans (by (simp (maxDischargeDepth := 8) [go_sem, World.cell?_alloc_past, ltk2, ltk3, ltk4, ltk5, ltk6, ltk7, ltk8, ltk9, *]))
  have r3_1 : w4.cell? ⟨w3.heap.size, 1, none⟩ = some (.int .i64 d1) := (hb.cell (by first | omega | (simp <;> omega))).trans (by (simp (maxDischargeDepth := 8) [go_sem, World.cell?_alloc_past, ltk2, ltk3, ltk4, ltk5, ltk6, ltk7, ltk8, ltk9, *]))
  clear hb HB3
  have zy4 : w.heap.size < w4.heap.size := by omega
  have zx4 : w.heap.size + 1 < w4.heap.size := by omega
  have zz_w2_4 : w2.heap.size < w4.heap.size := by omega
  have zz_w3_4 : w3.heap.size < w4.heap.size := by omega
  go_wp2_with fail
  with_reducible refine (AA _).mono ?_
  rintro e w5 ⟨rfl, hb⟩
  have HB5 : Below w.heap.size w w5 := by
    refine Below.trans ?_ (hb.mono ?_)
    · (repeat (first | exact HB4 | (refine bal ?_ _) | (refine below_drewN ?_ _) | (refine Below.drew ?_)))
    · first | omega | (simp <;> omega)
  have zs5 : w4.heap.size + 0 < w5.heap.size + 1 := by have := hb.size; (try simp at this); omega
  replace ka : w5.cell? ⟨w.heap.size, 0, none⟩ = some (.int .i64 n1) := (hb.cell (by first | omega | (simp <;> omega))).trans (by (simp (maxDischargeDepth := 8) [go_sem, World.cell?_alloc_past, ltk2, ltk3, ltk4, ltk5, ltk6, ltk7, ltk8, ltk9, *]))
  replace kb : w5.cell? ⟨w.heap.size, 1, none⟩ = some (.int .i64 d1) := (hb.cell (by first | omega | (simp <;> omega))).trans (by (simp (maxDischargeDepth := 8) [go_sem, World.cell?_alloc_past, ltk2, ltk3, ltk4, ltk5, ltk6, ltk7, ltk8, ltk9, *]))
  replace kc : w5.cell? ⟨w.heap.size + 1, 0, none⟩ = some (.int .i64 n2) := (hb.cell (by first | omega | (simp <;> omega))).trans (by (simp (maxDischargeDepth := 8) [go_sem, World.cell?_alloc_past, ltk2, ltk3, ltk4, ltk5, ltk6, ltk7, ltk8, ltk9, *]))
  replace kd : w5.cell? ⟨w.heap.size + 1, 1, none⟩ = some (.int .i64 d2) := (hb.cell (by first | omega | (simp <;> omega))).trans (by (simp (maxDischargeDepth := 8) [go_sem, World.cell?_alloc_past, ltk2, ltk3, ltk4, ltk5, ltk6, ltk7, ltk8, ltk9, *]))
  replace r2_0 : w5.cell? ⟨w2.heap.size, 0, none⟩ = some (.int .i64 P) := (hb.cell (by first | omega | (simp <;> omega))).trans (by (simp (maxDischargeDepth := 8) [go_sem, World.cell?_alloc_past, ltk2, ltk3, ltk4, ltk5, ltk6, ltk7, ltk8, ltk9, *]))
  replace r2_1 : w5.cell? ⟨w2.heap.size, 1, none⟩ = some (.int .i64 Q) := (hb.cell (by first | omega | (simp <;> omega))).trans (by (simp (maxDischargeDepth := 8) [go_sem, World.cell?_alloc_past, ltk2, ltk3, ltk4, ltk5, ltk6, ltk7, ltk8, ltk9, *]))
  replace r3_0 : w5.cell? ⟨w3.heap.size, 0, none⟩ = some (.int .i64 n1) := (hb.cell (by first | omega | (simp <;> omega))).trans (by (simp (maxDischargeDepth := 8) [go_sem, World.cell?_alloc_past, ltk2, ltk3, ltk4, ltk5, ltk6, ltk7, ltk8, ltk9, *]))
  replace r3_1 : w5.cell? ⟨w3.heap.size, 1, none⟩ = some (.int .i64 d1) := (hb.cell (by first | omega | (simp <;> omega))).trans (by (simp (maxDischargeDepth := 8) [go_sem, World.cell?_alloc_past, ltk2, ltk3, ltk4, ltk5, ltk6, ltk7, ltk8, ltk9, *]))
  clear hb HB4
  have zy5 : w.heap.size < w5.heap.size := by omega
  have zx5 : w.heap.size + 1 < w5.heap.size := by omega
  have zz_w2_5 : w2.heap.size < w5.heap.size := by omega
  have zz_w3_5 : w3.heap.size < w5.heap.size := by omega
  go_wp2_with fail
  go_ret
  exact ⟨rfl, by (repeat (first | with_reducible exact HB5 | (with_reducible refine bext ?_ _ _) | (with_reducible refine below_drewN ?_ _) | (with_reducible refine Below.drew ?_) | (with_reducible refine bal ?_ _) | (with_reducible refine bset ?_ (by first | omega | (simp <;> omega)) _)))⟩
end Go.Proofs.Ytbckjccbihnlnaa
