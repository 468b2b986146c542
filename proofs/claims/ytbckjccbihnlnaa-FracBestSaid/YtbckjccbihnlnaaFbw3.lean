/-
  The law on the nearest fraction, walked: the comparison.
-/
import Derived.Test.YtbckjccbihnlnaaFan
import Derived.Test.YtbckjccbihnlnaaFva
import Derived.Test.YtbckjccbihnlnaaFbn
import Derived.Test.YtbckjccbihnlnaaFyz
import Derived.Test.YtbckjccbihnlnaaFbw1
namespace Go.Proofs.Ytbckjccbihnlnaa
open Go.RowKit
set_option linter.unusedVariables false
set_option linter.unusedSimpArgs false

set_option maxRecDepth 100000 in
set_option maxHeartbeats 6400000 in
theorem best_near (n1 d1 n2 d2 most : Int) (o1 : okF n1 d1 = true) (o2 : okF n2 d2 = true) (m1 : 1 ≤ most) (m2 : most ≤ 1000000000000000000) (hf : (most < d2) = False) (w : World) :
    Calls Try.prog 5 #[.agg #[.int .i64 n1, .int .i64 d1], .agg #[.int .i64 n2, .int .i64 d2], .int .i64 most] w fun e w' => e = .returned (.bool true) ∧ Below w.heap.size w w' := by
  obtain ⟨a3, a4, a1, a2, a5⟩ := okF_out o1
  obtain ⟨c3, c4, c1, c2, c5⟩ := okF_out o2
  have A0 := fun w => law_valid n1 d1 n2 d2 (by omega) (by omega) (by omega) (by omega) (by omega) (by omega) (by omega) (by omega) w
  rw [decide_eq_true (show okF n1 d1 = true ∧ okF n2 d2 = true from ⟨o1, o2⟩)] at A0
  have A1 := fun w => near_best n1 d1 most o1 m1 m2 w
  have A2 := fun w => near_own n1 d1 o1 w
  have AA := fun w => law_alive w
  have m3 : (most < 1) = False := eq_false (by omega)
  have m4 : (1000000000000000000 < most) = False := eq_false (by omega)
  have O1 := Lib.hid o1
  have O2 := Lib.hid o2
  clear o1 o2 a5 c5
  have dAl := dAl; have dSt := dSt; have xC := ext_cell; have xF := ext_frozen; have xS := ext_set; have xN := ext_drewN; have xD := ext_drew; have xL := ext_lt; have xE := ext_ne; have xG := ext_nr; have xX := ext_ext; have xL1 := ext_lt1; have xL2 := ext_lt2; have xL3 := ext_lt3; have xM0 := ext_le0; have xM1 := ext_le1; have xM2 := ext_le2
  go_enter Try.func5, Try.ntmps5
  go_wp2_with fail
  with_reducible refine (A0 _).mono ?_
  rintro e w1 ⟨rfl, hb⟩
  have HB1 : Below w.heap.size w w1 := by
    refine Below.trans ?_ (hb.mono ?_)
    · (repeat (first | exact b0 _ | (refine bal ?_ _) | (refine below_drewN ?_ _) | (refine Below.drew ?_)))
    · first | omega | (simp <;> omega)
  have zs1 : w.heap.size + 2 < w1.heap.size + 1 := by have := hb.size; (try simp at this); omega
  have ka : w1.cell? ⟨w.heap.size, 0, none⟩ = some (.int .i64 n1) := (hb.cell (by first | omega | (simp <;> omega))).trans (by (simp (maxDischargeDepth := 8) [go_sem, World.cell?_alloc_past, ltk2, ltk3, ltk4, ltk5, ltk6, ltk7, ltk8, ltk9, *]))
  have kb : w1.cell? ⟨w.heap.size, 1, none⟩ = some (.int .i64 d1) := (hb.cell (by first | omega | (simp <;> omega))).trans (by (simp (maxDischargeDepth := 8) [go_sem, World.cell?_alloc_past, ltk2, ltk3, ltk4, ltk5, ltk6, ltk7, ltk8, ltk9, *]))
  have kc : w1.cell? ⟨w.heap.size + 1, 0, none⟩ = some (.int .i64 n2) := (hb.cell (by first | omega | (simp <;> omega))).trans (by (simp (maxDischargeDepth := 8) [go_sem, World.cell?_alloc_past, ltk2, ltk3, ltk4, ltk5, ltk6, ltk7, ltk8, ltk9, *]))
  have kd : w1.cell? ⟨w.heap.size + 1, 1, none⟩ = some (.int .i64 d2) := (hb.cell (by first | omega | (simp <;> omega))).trans (by (simp (maxDischargeDepth := 8) [go_sem, World.cell?_alloc_past, ltk2, ltk3, ltk4, ltk5, ltk6, ltk7, ltk8, ltk9, *]))
  clear hb
  have zy1 : w.heap.size < w1.heap.size := by omega
  have zx1 : w.heap.size + 1 < w1.heap.size := by omega
  go_wp2_with fail
  with_reducible refine (A1 _).mono ?_
  rintro e w2 ⟨P, Q, hBP, rfl, hb⟩
  have hPQ := best_ok n1 d1 most P Q O1.out (by omega) (by omega) hBP
  obtain ⟨p3, p4, p1, p2, p5⟩ := okF_out hPQ
  have hQ : Q ≤ most := hBP.2.1
  have A3 := fun w => ref_Check P Q (by omega) (by omega) (by omega) (by omega) w
  rw [show chkI P Q = 0 by rw [chkI, if_pos hPQ]] at A3
  have m5 : (most < Q) = False := eq_false (by omega)
  have HP := Lib.hid hPQ
  have HBP := Lib.hid hBP
  clear hBP hPQ p5 A1
  have HB2 : Below w.heap.size w w2 := by
    refine Below.trans ?_ (hb.mono ?_)
    · (repeat (first | exact HB1 | (refine bal ?_ _) | (refine below_drewN ?_ _) | (refine Below.drew ?_)))
    · first | omega | (simp <;> omega)
  have zs2 : w1.heap.size + 0 < w2.heap.size + 1 := by have := hb.size; (try simp at this); omega
  replace ka : w2.cell? ⟨w.heap.size, 0, none⟩ = some (.int .i64 n1) := (hb.cell (by first | omega | (simp <;> omega))).trans (by (simp (maxDischargeDepth := 8) [go_sem, World.cell?_alloc_past, ltk2, ltk3, ltk4, ltk5, ltk6, ltk7, ltk8, ltk9, *]))
  replace kb : w2.cell? ⟨w.heap.size, 1, none⟩ = some (.int .i64 d1) := (hb.cell (by first | omega | (simp <;> omega))).trans (by (simp (maxDischargeDepth := 8) [go_sem, World.cell?_alloc_past, ltk2, ltk3, ltk4, ltk5, ltk6, ltk7, ltk8, ltk9, *]))
  replace kc : w2.cell? ⟨w.heap.size + 1, 0, none⟩ = some (.int .i64 n2) := (hb.cell (by first | omega | (simp <;> omega))).trans (by (simp (maxDischargeDepth := 8) [go_sem, World.cell?_alloc_past, ltk2, ltk3, ltk4, ltk5, ltk6, ltk7, ltk8, ltk9, *]))
  replace kd : w2.cell? ⟨w.heap.size + 1, 1, none⟩ = some (.int .i64 d2) := (hb.cell (by first | omega | (simp <;> omega))).trans (by (simp (maxDischargeDepth := 8) [go_sem, World.cell?_alloc_past, ltk2, ltk3, ltk4, ltk5, ltk6, ltk7, ltk8, ltk9, *]))
  clear hb HB1
  have zy2 : w.heap.size < w2.heap.size := by omega
  have zx2 : w.heap.size + 1 < w2.heap.size := by omega
  go_wp2_with fail
  with_reducible refine (A2 _).mono ?_
  rintro e w3 ⟨rfl, hb⟩
  have HB3 : Below w.heap.size w w3 := by
    refine Below.trans ?_ (hb.mono ?_)
    · (repeat (first | exact HB2 | (refine bal ?_ _) | (refine below_drewN ?_ _) | (refine Below.drew ?_)))
    · first | omega | (simp <;> omega)
  have zs3 : w2.heap.size + 1 < w3.heap.size + 1 := by have := hb.size; (try simp at this); omega
  replace ka : w3.cell? ⟨w.heap.size, 0, none⟩ = some (.int .i64 n1) := (hb.cell (by first | omega | (simp <;> omega))).trans (by (simp (maxDischargeDepth := 8) [go_sem, World.cell?_alloc_past, ltk2, ltk3, ltk4, ltk5, ltk6, ltk7, ltk8, ltk9, *]))
  replace kb : w3.cell? ⟨w.heap.size, 1, none⟩ = some (.int .i64 d1) := (hb.cell (by first | omega | (simp <;> omega))).trans (by (simp (maxDischargeDepth := 8) [go_sem, World.cell?_alloc_past, ltk2, ltk3, ltk4, ltk5, ltk6, ltk7, ltk8, ltk9, *]))
  replace kc : w3.cell? ⟨w.heap.size + 1, 0, none⟩ = some (.int .i64 n2) := (hb.cell (by first | omega | (simp <;> omega))).trans (by (simp (maxDischargeDepth := 8) [go_sem, World.cell?_alloc_past, ltk2, ltk3, ltk4, ltk5, ltk6, ltk7, ltk8, ltk9, *]))
  replace kd : w3.cell? ⟨w.heap.size + 1, 1, none⟩ = some (.int .i64 d2) := (hb.cell (by first | omega | (simp <;> omega))).trans (by (simp (maxDischargeDepth := 8) [go_sem, World.cell?_alloc_past, ltk2, ltk3, ltk4, ltk5, ltk6, ltk7, ltk8, ltk9, *]))
  have r2_0 : w3.cell? ⟨w2.heap.size, 0, none⟩ = some (.int .i64 P) := (hb.cell (by first | omega | (simp <;> omega))).trans (by (simp (maxDischargeDepth := 8) [go_sem, World.cell?_alloc_past, ltk2, ltk3, ltk4, ltk5, ltk6, ltk7, ltk8, ltk9, *]))
  have r2_1 : w3.cell? ⟨w2.heap.size, 1, none⟩ = some (.int .i64 Q) := (hb.cell (by first | omega | (simp <;> omega))).trans (by (simp (maxDischargeDepth := 8) [go_sem, World.cell?_alloc_past, ltk2, ltk3, ltk4, ltk5, ltk6, ltk7, ltk8, ltk9, *]))
  clear hb HB2
  have zy3 : w.heap.size < w3.heap.size := by omega
  have zx3 : w.heap.size + 1 < w3.heap.size := by omega
  have zz_w2_3 : w2.heap.size < w3.heap.size := by omega
  go_wp2_with fail
  with_reducible refine (A3 _).mono ?_
  rintro e w4 ⟨rfl, hb⟩
  have HB4 : Below w.heap.size w w4 := by
    refine Below.trans ?_ (hb.mono ?_)
    · (repeat (first | exact HB3 | (refine bal ?_ _) | (refine below_drewN ?_ _) | (refine Below.drew ?_)))
    · first | omega | (simp <;> omega)
  have zs4 : w3.heap.size + 1 < w4.heap.size + 1 := by have := hb.size; (try simp at this); omega
  replace ka : w4.cell? ⟨w.heap.size, 0, none⟩ = some (.int .i64 n1) := (hb.cell (by first | omega | (simp <;> omega))).trans (by (simp (maxDischargeDepth := 8) [go_sem, World.cell?_alloc_past, ltk2, ltk3, ltk4, ltk5, ltk6, ltk7, ltk8, ltk9, *]))
  replace kb : w4.cell? ⟨w.heap.size, 1, none⟩ = some (.int .i64 d1) := (hb.cell (by first | omega | (simp <;> omega))).trans (by (simp (maxDischargeDepth := 8) [go_sem, World.cell?_alloc_past, ltk2, ltk3, ltk4, ltk5, ltk6, ltk7, ltk8, ltk9, *]))
  replace kc : w4.cell? ⟨w.heap.size + 1, 0, none⟩ = some (.int .i64 n2) := (hb.cell (by first | omega | (simp <;> omega))).trans (by (simp (maxDischargeDepth := 8) [go_sem, World.cell?_alloc_past, ltk2, ltk3, ltk4, ltk5, ltk6, ltk7, ltk8, ltk9, *]))
  replace kd : w4.cell? ⟨w.heap.size + 1, 1, none⟩ = some (.int .i64 d2) := (hb.cell (by first | omega | (simp <;> omega))).trans (by (simp (maxDischargeDepth := 8) [go_sem, World.cell?_alloc_past, ltk2, ltk3, ltk4, ltk5, ltk6, ltk7, ltk8, ltk9, *]))
  replace r2_0 : w4.cell? ⟨w2.heap.size, 0, none⟩ = some (.int .i64 P) := (hb.cell (by first | omega | (simp <;> omega))).trans (by (simp (maxDischargeDepth := 8) [go_sem, World.cell?_alloc_past, ltk2, ltk3, ltk4, ltk5, ltk6, ltk7, ltk8, ltk9, *]))
  replace r2_1 : w4.cell? ⟨w2.heap.size, 1, none⟩ = some (.int .i64 Q) := (hb.cell (by first | omega | (simp <;> omega))).trans (by (simp (maxDischargeDepth := 8) [go_sem, World.cell?_alloc_past, ltk2, ltk3, ltk4, ltk5, ltk6, ltk7, ltk8, ltk9, *]))
  have r3_0 : w4.cell? ⟨w3.heap.size, 0, none⟩ = some (.int .i64 n1) := (hb.cell (by first | omega | (simp <;> omega))).trans (by (simp (maxDischargeDepth := 8) [go_sem, World.cell?_alloc_past, ltk2, ltk3, ltk4, ltk5, ltk6, ltk7, ltk8, ltk9, *]))
  have r3_1 : w4.cell? ⟨w3.heap.size, 1, none⟩ = some (.int .i64 d1) := (hb.cell (by first | omega | (simp <;> omega))).trans (by (simp (maxDischargeDepth := 8) [go_sem, World.cell?_alloc_past, ltk2, ltk3, ltk4, ltk5, ltk6, ltk7, ltk8, ltk9, *]))
  clear hb HB3
  have zy4 : w.heap.size < w4.heap.size := by omega
  have zx4 : w.heap.size + 1 < w4.heap.size := by omega
  have zz_w2_4 : w2.heap.size < w4.heap.size := by omega
  have zz_w3_4 : w3.heap.size < w4.heap.size := by omega
  have A4 := fun w => ref_Sub n1 d1 P Q (by omega) (by omega) (by omega) (by omega) (by omega) (by omega) (by omega) (by omega) w
  have A5 := fun w => ref_Sub n1 d1 n2 d2 (by omega) (by omega) (by omega) (by omega) (by omega) (by omega) (by omega) (by omega) w
  have NUM : Hid (adE n1 d1 (-P) Q = 0 → adE n1 d1 (-n2) d2 = 0 → okF (adN n1 d1 (-P) Q) (adD n1 d1 (-P) Q) = true ∧ okF (adN n1 d1 (-n2) d2) (adD n1 d1 (-n2) d2) = true ∧
    ¬ absI (adN n1 d1 (-n2) d2) * adD n1 d1 (-P) Q < absI (adN n1 d1 (-P) Q) * adD n1 d1 (-n2) d2 ∧
    (absI (adN n1 d1 (-n2) d2) = absI (adN n1 d1 (-P) Q) → adD n1 d1 (-n2) d2 = adD n1 d1 (-P) Q → ¬ n2 * Q < P * d2)) := Lib.hid (fun e1 e2 =>
    ⟨(sub_abs n1 d1 P Q O1.out HP.out e1).1, (sub_abs n1 d1 n2 d2 O1.out O2.out e2).1, best_num n1 d1 most P Q n2 d2 O1.out m1 m2 HBP.out O2.out (by simp at hf; omega) e1 e2⟩)
  generalize adN n1 d1 (-P) Q = dn at *
  generalize adD n1 d1 (-P) Q = dd at *
  generalize adE n1 d1 (-P) Q = dE at *
  generalize adN n1 d1 (-n2) d2 = gn at *
  generalize adD n1 d1 (-n2) d2 = gd at *
  generalize adE n1 d1 (-n2) d2 = gE at *
  clear O1 O2 HP HBP A0 A2 A3
  go_wp2_with fail
  with_reducible refine (A4 _).mono ?_
  rintro e w5 ⟨rfl, hb⟩
  have HB5 : Below w.heap.size w w5 := by
    refine Below.trans ?_ (hb.mono ?_)
    · (repeat (first | exact HB4 | (refine bal ?_ _) | (refine below_drewN ?_ _) | (refine Below.drew ?_)))
    · first | omega | (simp <;> omega)
  have zs5 : w4.heap.size + 0 < w5.heap.size + 1 := by have := hb.size; (try simp at this); omega
  replace ka : w5.cell? ⟨w.heap.size, 0, none⟩ = some (.int .i64 n1) := (hb.cell (by first | omega | (simp <;> omega))).trans (by (simp (maxDischargeDepth := 8) [go_sem, World.cell?_alloc_past, ltk2, ltk3, ltk4, ltk5, ltk6, ltk7, ltk8, ltk9, *]))
  replace kb : w5.cell? ⟨w.heap.size, 1, none⟩ = some (.int .i64 d1) := (hb.cell (by first | omega | (simp <;> omega))).trans (by (simp (maxDischargeDepth := 8) [go_sem, World.cell?_alloc_past, ltk2, ltk3, ltk4, ltk5, ltk6, ltk7, ltk8, ltk9, *]))
  replace kc : w5.cell? ⟨w.heap.size + 1, 0, none⟩ = some (.int .i64 n2) := (hb.cell (by first | omega | (simp <;> omega))).trans (by (simp (maxDischargeDepth := 8) [go_sem, World.cell?_alloc_past, ltk2, ltk3, ltk4, ltk5, ltk6, ltk7, ltk8, ltk9, *]))
  replace kd : w5.cell? ⟨w.heap.size + 1, 1, none⟩ = some (.int .i64 d2) := (hb.cell (by first | omega | (simp <;> omega))).trans (by (simp (maxDischargeDepth := 8) [go_sem, World.cell?_alloc_past, ltk2, ltk3, ltk4, ltk5, ltk6, ltk7, ltk8, ltk9, *]))
  replace r2_0 : w5.cell? ⟨w2.heap.size, 0, none⟩ = some (.int .i64 P) := (hb.cell (by first | omega | (simp <;> omega))).trans (by (simp (maxDischargeDepth := 8) [go_sem, World.cell?_alloc_past, ltk2, ltk3, ltk4, ltk5, ltk6, ltk7, ltk8, ltk9, *]))
  replace r2_1 : w5.cell? ⟨w2.heap.size, 1, none⟩ = some (.int .i64 Q) := (hb.cell (by first | omega | (simp <;> omega))).trans (by (simp (maxDischargeDepth := 8) [go_sem, World.cell?_alloc_past, ltk2, ltk3, ltk4, ltk5, ltk6, ltk7, ltk8, ltk9, *]))
  replace r3_0 : w5.cell? ⟨w3.heap.size, 0, none⟩ = some (.int .i64 n1) := (hb.cell (by first | omega | (simp <;> omega))).trans (by (simp (maxDischargeDepth := 8) [go_sem, World.cell?_alloc_past, ltk2, ltk3, ltk4, ltk5, ltk6, ltk7, ltk8, ltk9, *]))
  replace r3_1 : w5.cell? ⟨w3.heap.size, 1, none⟩ = some (.int .i64 d1) := (hb.cell (by first | omega | (simp <;> omega))).trans (by (simp (maxDischargeDepth := 8) [go_sem, World.cell?_alloc_past, ltk2, ltk3, ltk4, ltk5, ltk6, ltk7, ltk8, ltk9, *]))
  clear hb HB4
  have zy5 : w.heap.size < w5.heap.size := by omega
  have zx5 : w.heap.size + 1 < w5.heap.size := by omega
  have zz_w2_5 : w2.heap.size < w5.heap.size := by omega
  have zz_w3_5 : w3.heap.size < w5.heap.size := by omega
  go_wp2_with fail
  with_reducible refine (A5 _).mono ?_
  rintro e w6 ⟨rfl, hb⟩
  have HB6 : Below w.heap.size w w6 := by
    refine Below.trans ?_ (hb.mono ?_)
    · (repeat (first | exact HB5 | (refine bal ?_ _) | (refine below_drewN ?_ _) | (refine Below.drew ?_)))
    · first | omega | (simp <;> omega)
  have zs6 : w5.heap.size + 1 < w6.heap.size + 1 := by have := hb.size; (try simp at this); omega
  replace ka : w6.cell? ⟨w.heap.size, 0, none⟩ = some (.int .i64 n1) := (hb.cell (by first | omega | (simp <;> omega))).trans (by (simp (maxDischargeDepth := 8) [go_sem, World.cell?_alloc_past, ltk2, ltk3, ltk4, ltk5, ltk6, ltk7, ltk8, ltk9, *]))
  replace kb : w6.cell? ⟨w.heap.size, 1, none⟩ = some (.int .i64 d1) := (hb.cell (by first | omega | (simp <;> omega))).trans (by (simp (maxDischargeDepth := 8) [go_sem, World.cell?_alloc_past, ltk2, ltk3, ltk4, ltk5, ltk6, ltk7, ltk8, ltk9, *]))
  replace kc : w6.cell? ⟨w.heap.size + 1, 0, none⟩ = some (.int .i64 n2) := (hb.cell (by first | omega | (simp <;> omega))).trans (by (simp (maxDischargeDepth := 8) [go_sem, World.cell?_alloc_past, ltk2, ltk3, ltk4, ltk5, ltk6, ltk7, ltk8, ltk9, *]))
  replace kd : w6.cell? ⟨w.heap.size + 1, 1, none⟩ = some (.int .i64 d2) := (hb.cell (by first | omega | (simp <;> omega))).trans (by (simp (maxDischargeDepth := 8) [go_sem, World.cell?_alloc_past, ltk2, ltk3, ltk4, ltk5, ltk6, ltk7, ltk8, ltk9, *]))
  replace r2_0 : w6.cell? ⟨w2.heap.size, 0, none⟩ = some (.int .i64 P) := (hb.cell (by first | omega | (simp <;> omega))).trans (by (simp (maxDischargeDepth := 8) [go_sem, World.cell?_alloc_past, ltk2, ltk3, ltk4, ltk5, ltk6, ltk7, ltk8, ltk9, *]))
  replace r2_1 : w6.cell? ⟨w2.heap.size, 1, none⟩ = some (.int .i64 Q) := (hb.cell (by first | omega | (simp <;> omega))).trans (by (simp (maxDischargeDepth := 8) [go_sem, World.cell?_alloc_past, ltk2, ltk3, ltk4, ltk5, ltk6, ltk7, ltk8, ltk9, *]))
  replace r3_0 : w6.cell? ⟨w3.heap.size, 0, none⟩ = some (.int .i64 n1) := (hb.cell (by first | omega | (simp <;> omega))).trans (by (simp (maxDischargeDepth := 8) [go_sem, World.cell?_alloc_past, ltk2, ltk3, ltk4, ltk5, ltk6, ltk7, ltk8, ltk9, *]))
  replace r3_1 : w6.cell? ⟨w3.heap.size, 1, none⟩ = some (.int .i64 d1) := (hb.cell (by first | omega | (simp <;> omega))).trans (by (simp (maxDischargeDepth := 8) [go_sem, World.cell?_alloc_past, ltk2, ltk3, ltk4, ltk5, ltk6, ltk7, ltk8, ltk9, *]))
  have r5_0 : w6.cell? ⟨w5.heap.size, 0, none⟩ = some (.int .i64 dn) := (hb.cell (by first | omega | (simp <;> omega))).trans (by (simp (maxDischargeDepth := 8) [go_sem, World.cell?_alloc_past, ltk2, ltk3, ltk4, ltk5, ltk6, ltk7, ltk8, ltk9, *]))
  have r5_1 : w6.cell? ⟨w5.heap.size, 1, none⟩ = some (.int .i64 dd) := (hb.cell (by first | omega | (simp <;> omega))).trans (by (simp (maxDischargeDepth := 8) [go_sem, World.cell?_alloc_past, ltk2, ltk3, ltk4, ltk5, ltk6, ltk7, ltk8, ltk9, *]))
  have f5_0 : w6.frozen? ⟨w5.heap.size, 0, none⟩ = false := (hb.frozen (by first | omega | (simp <;> omega))).trans (by (simp (maxDischargeDepth := 8) [go_sem, World.cell?_alloc_past, ltk2, ltk3, ltk4, ltk5, ltk6, ltk7, ltk8, ltk9, *]))
  have f5_1 : w6.frozen? ⟨w5.heap.size, 1, none⟩ = false := (hb.frozen (by first | omega | (simp <;> omega))).trans (by (simp (maxDischargeDepth := 8) [go_sem, World.cell?_alloc_past, ltk2, ltk3, ltk4, ltk5, ltk6, ltk7, ltk8, ltk9, *]))
  clear hb HB5
  have zy6 : w.heap.size < w6.heap.size := by omega
  have zx6 : w.heap.size + 1 < w6.heap.size := by omega
  have zz_w2_6 : w2.heap.size < w6.heap.size := by omega
  have zz_w3_6 : w3.heap.size < w6.heap.size := by omega
  have zz_w5_6 : w5.heap.size < w6.heap.size := by omega
  clear A4 A5
  by_cases h1 : dE = 0
  · by_cases h2 : gE = 0
    · subst h1; subst h2
      obtain ⟨k1, k2, k3, k4⟩ := NUM.out rfl rfl
      obtain ⟨y1, y2, y3, y4, y5⟩ := okF_out k1
      obtain ⟨x1, x2, x3, x4, x5⟩ := okF_out k2
      clear NUM k1 k2 y5 x5
      have ad0 : 0 ≤ absI dn ∧ absI dn ≤ 1000000000000000000 := by unfold absI; omega
      have ag0 : 0 ≤ absI gn ∧ absI gn ≤ 1000000000000000000 := by unfold absI; omega
      have adc : (dn < 0 ∧ -dn = absI dn) ∨ (¬ dn < 0 ∧ dn = absI dn) := by unfold absI; omega
      have agc : (gn < 0 ∧ -gn = absI gn) ∨ (¬ gn < 0 ∧ gn = absI gn) := by unfold absI; omega
      generalize absI dn = ad at *
      generalize absI gn = ag at *
      have N1 := fun w => ref_Neg dn dd (by omega) (by omega) w
      have N2 := fun w => ref_Neg gn gd (by omega) (by omega) w
      have L1 := fun w => ref_Less ag gd ad dd (by omega) (by omega) (by omega) (by omega) (by omega) (by omega) (by omega) (by omega) w
      rw [decide_eq_false (Int.not_lt.2 k3)] at L1
      have L2 := fun w => ref_Less n2 d2 P Q (by omega) (by omega) (by omega) (by omega) (by omega) (by omega) (by omega) (by omega) w
      have K4 := Lib.hid k4
      have AGC := Lib.hid agc
      clear k3 k4 agc
      have q1 : ¬ w5.heap.size = w6.heap.size := by omega
      have q2 : ¬ w6.heap.size = w5.heap.size := by omega
      have q3 : ¬ w2.heap.size = w5.heap.size := by omega
      have q4 : ¬ w5.heap.size = w2.heap.size := by omega
      have q5 : ¬ w2.heap.size = w6.heap.size := by omega
      have q6 : ¬ w6.heap.size = w2.heap.size := by omega
      have q7 : ¬ w.heap.size + 1 = w5.heap.size := by omega
      have q8 : ¬ w5.heap.size = w.heap.size + 1 := by omega
      have q9 : ¬ w.heap.size + 1 = w6.heap.size := by omega
      have qa : ¬ w6.heap.size = w.heap.size + 1 := by omega
      have qb : w.heap.size ≤ w5.heap.size := by omega
      have qc : w.heap.size ≤ w6.heap.size := by omega
      go_upto_if 89 with fail
      go_cut [] (fun wx => (wx.cell? ⟨w.heap.size + 1, 0, none⟩ = some (.int .i64 n2) ∧ wx.cell? ⟨w.heap.size + 1, 1, none⟩ = some (.int .i64 d2) ∧ wx.cell? ⟨w2.heap.size, 0, none⟩ = some (.int .i64 P) ∧ wx.cell? ⟨w2.heap.size, 1, none⟩ = some (.int .i64 Q) ∧ wx.cell? ⟨w5.heap.size, 0, none⟩ = some (.int .i64 ad) ∧ wx.cell? ⟨w5.heap.size, 1, none⟩ = some (.int .i64 dd) ∧ wx.cell? ⟨w6.heap.size, 0, none⟩ = some (.int .i64 gn) ∧ wx.cell? ⟨w6.heap.size, 1, none⟩ = some (.int .i64 gd) ∧ wx.frozen? ⟨w6.heap.size, 0, none⟩ = false ∧ wx.frozen? ⟨w6.heap.size, 1, none⟩ = false) ∧ w6.heap.size < wx.heap.size ∧ Below w.heap.size w wx)
      case first =>
        rcases adc with ⟨s1, s2⟩ | ⟨s1, s2⟩
        · have s3 : (dn < 0) = True := eq_true s1
          go_wp2_with fail
          with_reducible refine (N1 _).mono ?_
          rintro e w7 ⟨rfl, hb⟩
          have HB7 : Below w.heap.size w w7 := by
            refine Below.trans ?_ (hb.mono ?_)
            · (repeat (first | exact HB6 | (refine bal ?_ _) | (refine below_drewN ?_ _) | (refine Below.drew ?_)))
            · first | omega | (simp <;> omega)
          have zs7 : w6.heap.size + 1 < w7.heap.size + 1 := by have := hb.size; (try simp at this); omega
          replace ka : w7.cell? ⟨w.heap.size, 0, none⟩ = some (.int .i64 n1) := (hb.cell (by first | omega | (simp <;> omega))).trans (by (simp (maxDischargeDepth := 8) [go_sem, World.cell?_alloc_past, ltk2, ltk3, ltk4, ltk5, ltk6, ltk7, ltk8, ltk9, *]))
          replace kb : w7.cell? ⟨w.heap.size, 1, none⟩ = some (.int .i64 d1) := (hb.cell (by first | omega | (simp <;> omega))).trans (by (simp (maxDischargeDepth := 8) [go_sem, World.cell?_alloc_past, ltk2, ltk3, ltk4, ltk5, ltk6, ltk7, ltk8, ltk9, *]))
          replace kc : w7.cell? ⟨w.heap.size + 1, 0, none⟩ = some (.int .i64 n2) := (hb.cell (by first | omega | (simp <;> omega))).trans (by (simp (maxDischargeDepth := 8) [go_sem, World.cell?_alloc_past, ltk2, ltk3, ltk4, ltk5, ltk6, ltk7, ltk8, ltk9, *]))
          replace kd : w7.cell? ⟨w.heap.size + 1, 1, none⟩ = some (.int .i64 d2) := (hb.cell (by first | omega | (simp <;> omega))).trans (by (simp (maxDischargeDepth := 8) [go_sem, World.cell?_alloc_past, ltk2, ltk3, ltk4, ltk5, ltk6, ltk7, ltk8, ltk9, *]))
          replace r2_0 : w7.cell? ⟨w2.heap.size, 0, none⟩ = some (.int .i64 P) := (hb.cell (by first | omega | (simp <;> omega))).trans (by (simp (maxDischargeDepth := 8) [go_sem, World.cell?_alloc_past, ltk2, ltk3, ltk4, ltk5, ltk6, ltk7, ltk8, ltk9, *]))
          replace r2_1 : w7.cell? ⟨w2.heap.size, 1, none⟩ = some (.int .i64 Q) := (hb.cell (by first | omega | (simp <;> omega))).trans (by (simp (maxDischargeDepth := 8) [go_sem, World.cell?_alloc_past, ltk2, ltk3, ltk4, ltk5, ltk6, ltk7, ltk8, ltk9, *]))
          replace r3_0 : w7.cell? ⟨w3.heap.size, 0, none⟩ = some (.int .i64 n1) := (hb.cell (by first | omega | (simp <;> omega))).trans (by (simp (maxDischargeDepth := 8) [go_sem, World.cell?_alloc_past, ltk2, ltk3, ltk4, ltk5, ltk6, ltk7, ltk8, ltk9, *]))
          replace r3_1 : w7.cell? ⟨w3.heap.size, 1, none⟩ = some (.int .i64 d1) := (hb.cell (by first | omega | (simp <;> omega))).trans (by (simp (maxDischargeDepth := 8) [go_sem, World.cell?_alloc_past, ltk2, ltk3, ltk4, ltk5, ltk6, ltk7, ltk8, ltk9, *]))
          replace r5_0 : w7.cell? ⟨w5.heap.size, 0, none⟩ = some (.int .i64 dn) := (hb.cell (by first | omega | (simp <;> omega))).trans (by (simp (maxDischargeDepth := 8) [go_sem, World.cell?_alloc_past, ltk2, ltk3, ltk4, ltk5, ltk6, ltk7, ltk8, ltk9, *]))
          replace r5_1 : w7.cell? ⟨w5.heap.size, 1, none⟩ = some (.int .i64 dd) := (hb.cell (by first | omega | (simp <;> omega))).trans (by (simp (maxDischargeDepth := 8) [go_sem, World.cell?_alloc_past, ltk2, ltk3, ltk4, ltk5, ltk6, ltk7, ltk8, ltk9, *]))
          replace f5_0 : w7.frozen? ⟨w5.heap.size, 0, none⟩ = false := (hb.frozen (by first | omega | (simp <;> omega))).trans (by (simp (maxDischargeDepth := 8) [go_sem, World.cell?_alloc_past, ltk2, ltk3, ltk4, ltk5, ltk6, ltk7, ltk8, ltk9, *]))
          replace f5_1 : w7.frozen? ⟨w5.heap.size, 1, none⟩ = false := (hb.frozen (by first | omega | (simp <;> omega))).trans (by (simp (maxDischargeDepth := 8) [go_sem, World.cell?_alloc_past, ltk2, ltk3, ltk4, ltk5, ltk6, ltk7, ltk8, ltk9, *]))
          have r6_0 : w7.cell? ⟨w6.heap.size, 0, none⟩ = some (.int .i64 gn) := (hb.cell (by first | omega | (simp <;> omega))).trans (by (simp (maxDischargeDepth := 8) [go_sem, World.cell?_alloc_past, ltk2, ltk3, ltk4, ltk5, ltk6, ltk7, ltk8, ltk9, *]))
          have r6_1 : w7.cell? ⟨w6.heap.size, 1, none⟩ = some (.int .i64 gd) := (hb.cell (by first | omega | (simp <;> omega))).trans (by (simp (maxDischargeDepth := 8) [go_sem, World.cell?_alloc_past, ltk2, ltk3, ltk4, ltk5, ltk6, ltk7, ltk8, ltk9, *]))
          have f6_0 : w7.frozen? ⟨w6.heap.size, 0, none⟩ = false := (hb.frozen (by first | omega | (simp <;> omega))).trans (by (simp (maxDischargeDepth := 8) [go_sem, World.cell?_alloc_past, ltk2, ltk3, ltk4, ltk5, ltk6, ltk7, ltk8, ltk9, *]))
          have f6_1 : w7.frozen? ⟨w6.heap.size, 1, none⟩ = false := (hb.frozen (by first | omega | (simp <;> omega))).trans (by (simp (maxDischargeDepth := 8) [go_sem, World.cell?_alloc_past, ltk2, ltk3, ltk4, ltk5, ltk6, ltk7, ltk8, ltk9, *]))
          clear hb HB6
          have u1 : w5.heap.size < w7.heap.size := by omega
          have u2 : w6.heap.size < w7.heap.size := by omega
          have u3 : w2.heap.size < w7.heap.size := by omega
          have u4 : w.heap.size + 1 < w7.heap.size := by omega
          go_wp2_with fail
          all_goals go_meet
          all_goals exact ⟨⟨by (simp (maxDischargeDepth := 8) [go_sem, World.cell?_alloc_past, ltk2, ltk3, ltk4, ltk5, ltk6, ltk7, ltk8, ltk9, *]), by (simp (maxDischargeDepth := 8) [go_sem, World.cell?_alloc_past, ltk2, ltk3, ltk4, ltk5, ltk6, ltk7, ltk8, ltk9, *]), by (simp (maxDischargeDepth := 8) [go_sem, World.cell?_alloc_past, ltk2, ltk3, ltk4, ltk5, ltk6, ltk7, ltk8, ltk9, *]), by (simp (maxDischargeDepth := 8) [go_sem, World.cell?_alloc_past, ltk2, ltk3, ltk4, ltk5, ltk6, ltk7, ltk8, ltk9, *]), by (simp (maxDischargeDepth := 8) [go_sem, World.cell?_alloc_past, ltk2, ltk3, ltk4, ltk5, ltk6, ltk7, ltk8, ltk9, *]), by (simp (maxDischargeDepth := 8) [go_sem, World.cell?_alloc_past, ltk2, ltk3, ltk4, ltk5, ltk6, ltk7, ltk8, ltk9, *]), by (simp (maxDischargeDepth := 8) [go_sem, World.cell?_alloc_past, ltk2, ltk3, ltk4, ltk5, ltk6, ltk7, ltk8, ltk9, *]), by (simp (maxDischargeDepth := 8) [go_sem, World.cell?_alloc_past, ltk2, ltk3, ltk4, ltk5, ltk6, ltk7, ltk8, ltk9, *]), by (simp (maxDischargeDepth := 8) [go_sem, World.cell?_alloc_past, ltk2, ltk3, ltk4, ltk5, ltk6, ltk7, ltk8, ltk9, *]), by (simp (maxDischargeDepth := 8) [go_sem, World.cell?_alloc_past, ltk2, ltk3, ltk4, ltk5, ltk6, ltk7, ltk8, ltk9, *])⟩, by (first | omega | (simp [World.setCell] <;> omega)), by (repeat (first | with_reducible exact HB7 | (with_reducible refine bext ?_ _ _) | (with_reducible refine below_drewN ?_ _) | (with_reducible refine Below.drew ?_) | (with_reducible refine bal ?_ _) | (with_reducible refine bset ?_ (by first | omega | (simp <;> omega)) _)))⟩
        · have s3 : (dn < 0) = False := eq_false (by omega)
          go_wp2_with fail
          all_goals go_meet
          all_goals exact ⟨⟨by (simp (maxDischargeDepth := 8) [go_sem, World.cell?_alloc_past, ltk2, ltk3, ltk4, ltk5, ltk6, ltk7, ltk8, ltk9, *]), by (simp (maxDischargeDepth := 8) [go_sem, World.cell?_alloc_past, ltk2, ltk3, ltk4, ltk5, ltk6, ltk7, ltk8, ltk9, *]), by (simp (maxDischargeDepth := 8) [go_sem, World.cell?_alloc_past, ltk2, ltk3, ltk4, ltk5, ltk6, ltk7, ltk8, ltk9, *]), by (simp (maxDischargeDepth := 8) [go_sem, World.cell?_alloc_past, ltk2, ltk3, ltk4, ltk5, ltk6, ltk7, ltk8, ltk9, *]), by (simp (maxDischargeDepth := 8) [go_sem, World.cell?_alloc_past, ltk2, ltk3, ltk4, ltk5, ltk6, ltk7, ltk8, ltk9, *]), by (simp (maxDischargeDepth := 8) [go_sem, World.cell?_alloc_past, ltk2, ltk3, ltk4, ltk5, ltk6, ltk7, ltk8, ltk9, *]), by (simp (maxDischargeDepth := 8) [go_sem, World.cell?_alloc_past, ltk2, ltk3, ltk4, ltk5, ltk6, ltk7, ltk8, ltk9, *]), by (simp (maxDischargeDepth := 8) [go_sem, World.cell?_alloc_past, ltk2, ltk3, ltk4, ltk5, ltk6, ltk7, ltk8, ltk9, *]), by (simp (maxDischargeDepth := 8) [go_sem, World.cell?_alloc_past, ltk2, ltk3, ltk4, ltk5, ltk6, ltk7, ltk8, ltk9, *]), by (simp (maxDischargeDepth := 8) [go_sem, World.cell?_alloc_past, ltk2, ltk3, ltk4, ltk5, ltk6, ltk7, ltk8, ltk9, *])⟩, by (first | omega | (simp [World.setCell] <;> omega)), by (repeat (first | with_reducible exact HB6 | (with_reducible refine bext ?_ _ _) | (with_reducible refine below_drewN ?_ _) | (with_reducible refine Below.drew ?_) | (with_reducible refine bal ?_ _) | (with_reducible refine bset ?_ (by first | omega | (simp <;> omega)) _)))⟩
      case rest =>
        obtain ⟨⟨Z0, Z1, Z2, Z3, Z4, Z5, Z6, Z7, Z8, Z9⟩, zw, HBc⟩ := hcut
        clear ka kb kc kd r2_0 r2_1 r3_0 r3_1 r5_0 r5_1 f5_0 f5_1 HB6 adc N1
        have v1 : w5.heap.size < wc.heap.size := by omega
        have v3 : w2.heap.size < wc.heap.size := by omega
        have v4 : w.heap.size + 1 < wc.heap.size := by omega
        go_upto_if 94 with fail
        go_cut [] (fun wx => (wx.cell? ⟨w.heap.size + 1, 0, none⟩ = some (.int .i64 n2) ∧ wx.cell? ⟨w.heap.size + 1, 1, none⟩ = some (.int .i64 d2) ∧ wx.cell? ⟨w2.heap.size, 0, none⟩ = some (.int .i64 P) ∧ wx.cell? ⟨w2.heap.size, 1, none⟩ = some (.int .i64 Q) ∧ wx.cell? ⟨w5.heap.size, 0, none⟩ = some (.int .i64 ad) ∧ wx.cell? ⟨w5.heap.size, 1, none⟩ = some (.int .i64 dd) ∧ wx.cell? ⟨w6.heap.size, 0, none⟩ = some (.int .i64 ag) ∧ wx.cell? ⟨w6.heap.size, 1, none⟩ = some (.int .i64 gd) ∧ wx.frozen? ⟨w6.heap.size, 0, none⟩ = false ∧ wx.frozen? ⟨w6.heap.size, 1, none⟩ = false) ∧ w6.heap.size < wx.heap.size ∧ Below w.heap.size w wx)
        case first =>
          rcases AGC.out with ⟨s1, s2⟩ | ⟨s1, s2⟩
          · have s3 : (gn < 0) = True := eq_true s1
            go_wp2_with fail
            with_reducible refine (N2 _).mono ?_
            rintro e w8 ⟨rfl, hb⟩
            have HB8 : Below w.heap.size w w8 := by
              refine Below.trans ?_ (hb.mono ?_)
              · (repeat (first | exact HBc | (refine bal ?_ _) | (refine below_drewN ?_ _) | (refine Below.drew ?_)))
              · first | omega | (simp <;> omega)
            have zs8 : wc.heap.size < w8.heap.size + 1 := by have := hb.size; (try simp at this); omega
            replace Z0 : w8.cell? ⟨w.heap.size + 1, 0, none⟩ = some (.int .i64 n2) := (hb.cell (by first | omega | (simp <;> omega))).trans (by (simp (maxDischargeDepth := 8) [go_sem, World.cell?_alloc_past, ltk2, ltk3, ltk4, ltk5, ltk6, ltk7, ltk8, ltk9, *]))
            replace Z1 : w8.cell? ⟨w.heap.size + 1, 1, none⟩ = some (.int .i64 d2) := (hb.cell (by first | omega | (simp <;> omega))).trans (by (simp (maxDischargeDepth := 8) [go_sem, World.cell?_alloc_past, ltk2, ltk3, ltk4, ltk5, ltk6, ltk7, ltk8, ltk9, *]))
            replace Z2 : w8.cell? ⟨w2.heap.size, 0, none⟩ = some (.int .i64 P) := (hb.cell (by first | omega | (simp <;> omega))).trans (by (simp (maxDischargeDepth := 8) [go_sem, World.cell?_alloc_past, ltk2, ltk3, ltk4, ltk5, ltk6, ltk7, ltk8, ltk9, *]))
            replace Z3 : w8.cell? ⟨w2.heap.size, 1, none⟩ = some (.int .i64 Q) := (hb.cell (by first | omega | (simp <;> omega))).trans (by (simp (maxDischargeDepth := 8) [go_sem, World.cell?_alloc_past, ltk2, ltk3, ltk4, ltk5, ltk6, ltk7, ltk8, ltk9, *]))
            replace Z4 : w8.cell? ⟨w5.heap.size, 0, none⟩ = some (.int .i64 ad) := (hb.cell (by first | omega | (simp <;> omega))).trans (by (simp (maxDischargeDepth := 8) [go_sem, World.cell?_alloc_past, ltk2, ltk3, ltk4, ltk5, ltk6, ltk7, ltk8, ltk9, *]))
            replace Z5 : w8.cell? ⟨w5.heap.size, 1, none⟩ = some (.int .i64 dd) := (hb.cell (by first | omega | (simp <;> omega))).trans (by (simp (maxDischargeDepth := 8) [go_sem, World.cell?_alloc_past, ltk2, ltk3, ltk4, ltk5, ltk6, ltk7, ltk8, ltk9, *]))
            replace Z6 : w8.cell? ⟨w6.heap.size, 0, none⟩ = some (.int .i64 gn) := (hb.cell (by first | omega | (simp <;> omega))).trans (by (simp (maxDischargeDepth := 8) [go_sem, World.cell?_alloc_past, ltk2, ltk3, ltk4, ltk5, ltk6, ltk7, ltk8, ltk9, *]))
            replace Z7 : w8.cell? ⟨w6.heap.size, 1, none⟩ = some (.int .i64 gd) := (hb.cell (by first | omega | (simp <;> omega))).trans (by (simp (maxDischargeDepth := 8) [go_sem, World.cell?_alloc_past, ltk2, ltk3, ltk4, ltk5, ltk6, ltk7, ltk8, ltk9, *]))
            replace Z8 : w8.frozen? ⟨w6.heap.size, 0, none⟩ = false := (hb.frozen (by first | omega | (simp <;> omega))).trans (by (simp (maxDischargeDepth := 8) [go_sem, World.cell?_alloc_past, ltk2, ltk3, ltk4, ltk5, ltk6, ltk7, ltk8, ltk9, *]))
            replace Z9 : w8.frozen? ⟨w6.heap.size, 1, none⟩ = false := (hb.frozen (by first | omega | (simp <;> omega))).trans (by (simp (maxDischargeDepth := 8) [go_sem, World.cell?_alloc_past, ltk2, ltk3, ltk4, ltk5, ltk6, ltk7, ltk8, ltk9, *]))
            clear hb HBc
            have u1 : w5.heap.size < w8.heap.size := by omega
            have u2 : w6.heap.size < w8.heap.size := by omega
            have u3 : w2.heap.size < w8.heap.size := by omega
            have u4 : w.heap.size + 1 < w8.heap.size := by omega
            go_wp2_with fail
            all_goals go_meet
            all_goals exact ⟨⟨by (simp (maxDischargeDepth := 8) [go_sem, World.cell?_alloc_past, ltk2, ltk3, ltk4, ltk5, ltk6, ltk7, ltk8, ltk9, *]), by (simp (maxDischargeDepth := 8) [go_sem, World.cell?_alloc_past, ltk2, ltk3, ltk4, ltk5, ltk6, ltk7, ltk8, ltk9, *]), by (simp (maxDischargeDepth := 8) [go_sem, World.cell?_alloc_past, ltk2, ltk3, ltk4, ltk5, ltk6, ltk7, ltk8, ltk9, *]), by (simp (maxDischargeDepth := 8) [go_sem, World.cell?_alloc_past, ltk2, ltk3, ltk4, ltk5, ltk6, ltk7, ltk8, ltk9, *]), by (simp (maxDischargeDepth := 8) [go_sem, World.cell?_alloc_past, ltk2, ltk3, ltk4, ltk5, ltk6, ltk7, ltk8, ltk9, *]), by (simp (maxDischargeDepth := 8) [go_sem, World.cell?_alloc_past, ltk2, ltk3, ltk4, ltk5, ltk6, ltk7, ltk8, ltk9, *]), by (simp (maxDischargeDepth := 8) [go_sem, World.cell?_alloc_past, ltk2, ltk3, ltk4, ltk5, ltk6, ltk7, ltk8, ltk9, *]), by (simp (maxDischargeDepth := 8) [go_sem, World.cell?_alloc_past, ltk2, ltk3, ltk4, ltk5, ltk6, ltk7, ltk8, ltk9, *]), by (simp (maxDischargeDepth := 8) [go_sem, World.cell?_alloc_past, ltk2, ltk3, ltk4, ltk5, ltk6, ltk7, ltk8, ltk9, *]), by (simp (maxDischargeDepth := 8) [go_sem, World.cell?_alloc_past, ltk2, ltk3, ltk4, ltk5, ltk6, ltk7, ltk8, ltk9, *])⟩, by (first | omega | (simp [World.setCell] <;> omega)), by (repeat (first | with_reducible exact HB8 | (with_reducible refine bext ?_ _ _) | (with_reducible refine below_drewN ?_ _) | (with_reducible refine Below.drew ?_) | (with_reducible refine bal ?_ _) | (with_reducible refine bset ?_ (by first | omega | (simp <;> omega)) _)))⟩
          · have s3 : (gn < 0) = False := eq_false (by omega)
            go_wp2_with fail
            all_goals go_meet
            all_goals exact ⟨⟨by (simp (maxDischargeDepth := 8) [go_sem, World.cell?_alloc_past, ltk2, ltk3, ltk4, ltk5, ltk6, ltk7, ltk8, ltk9, *]), by (simp (maxDischargeDepth := 8) [go_sem, World.cell?_alloc_past, ltk2, ltk3, ltk4, ltk5, ltk6, ltk7, ltk8, ltk9, *]), by (simp (maxDischargeDepth := 8) [go_sem, World.cell?_alloc_past, ltk2, ltk3, ltk4, ltk5, ltk6, ltk7, ltk8, ltk9, *]), by (simp (maxDischargeDepth := 8) [go_sem, World.cell?_alloc_past, ltk2, ltk3, ltk4, ltk5, ltk6, ltk7, ltk8, ltk9, *]), by (simp (maxDischargeDepth := 8) [go_sem, World.cell?_alloc_past, ltk2, ltk3, ltk4, ltk5, ltk6, ltk7, ltk8, ltk9, *]), by (simp (maxDischargeDepth := 8) [go_sem, World.cell?_alloc_past, ltk2, ltk3, ltk4, ltk5, ltk6, ltk7, ltk8, ltk9, *]), by (simp (maxDischargeDepth := 8) [go_sem, World.cell?_alloc_past, ltk2, ltk3, ltk4, ltk5, ltk6, ltk7, ltk8, ltk9, *]), by (simp (maxDischargeDepth := 8) [go_sem, World.cell?_alloc_past, ltk2, ltk3, ltk4, ltk5, ltk6, ltk7, ltk8, ltk9, *]), by (simp (maxDischargeDepth := 8) [go_sem, World.cell?_alloc_past, ltk2, ltk3, ltk4, ltk5, ltk6, ltk7, ltk8, ltk9, *]), by (simp (maxDischargeDepth := 8) [go_sem, World.cell?_alloc_past, ltk2, ltk3, ltk4, ltk5, ltk6, ltk7, ltk8, ltk9, *])⟩, by (first | omega | (simp [World.setCell] <;> omega)), by (repeat (first | with_reducible exact HBc | (with_reducible refine bext ?_ _ _) | (with_reducible refine below_drewN ?_ _) | (with_reducible refine Below.drew ?_) | (with_reducible refine bal ?_ _) | (with_reducible refine bset ?_ (by first | omega | (simp <;> omega)) _)))⟩
        case rest =>
          obtain ⟨⟨V0, V1, V2, V3, V4, V5, V6, V7, V8, V9⟩, zv, HBd⟩ := hcut
          clear Z0 Z1 Z2 Z3 Z4 Z5 Z6 Z7 Z8 Z9 HBc N2 AGC V8 V9
          have v5 : w5.heap.size < wc.heap.size := by omega
          have v6 : w2.heap.size < wc.heap.size := by omega
          have v7 : w.heap.size + 1 < wc.heap.size := by omega
          by_cases g1 : ag = ad
          · by_cases g2 : gd = dd
            · have g3 : (ag = ad) = True := eq_true g1
              have g4 : (gd = dd) = True := eq_true g2
              rw [decide_eq_false (Int.not_lt.2 (K4.out g1 g2))] at L2
              clear K4 g1 g2
              go_wp2_with fail
              with_reducible refine (L1 _).mono ?_
              rintro e w9 ⟨rfl, hb⟩
              have HB9 : Below w.heap.size w w9 := by
                refine Below.trans ?_ (hb.mono ?_)
                · (repeat (first | exact HBd | (refine bal ?_ _) | (refine below_drewN ?_ _) | (refine Below.drew ?_)))
                · first | omega | (simp <;> omega)
              have zs9 : wc.heap.size + 0 < w9.heap.size + 1 := by have := hb.size; (try simp at this); omega
              replace V0 : w9.cell? ⟨w.heap.size + 1, 0, none⟩ = some (.int .i64 n2) := (hb.cell (by first | omega | (simp <;> omega))).trans (by (simp (maxDischargeDepth := 8) [go_sem, World.cell?_alloc_past, ltk2, ltk3, ltk4, ltk5, ltk6, ltk7, ltk8, ltk9, *]))
              replace V1 : w9.cell? ⟨w.heap.size + 1, 1, none⟩ = some (.int .i64 d2) := (hb.cell (by first | omega | (simp <;> omega))).trans (by (simp (maxDischargeDepth := 8) [go_sem, World.cell?_alloc_past, ltk2, ltk3, ltk4, ltk5, ltk6, ltk7, ltk8, ltk9, *]))
              replace V2 : w9.cell? ⟨w2.heap.size, 0, none⟩ = some (.int .i64 P) := (hb.cell (by first | omega | (simp <;> omega))).trans (by (simp (maxDischargeDepth := 8) [go_sem, World.cell?_alloc_past, ltk2, ltk3, ltk4, ltk5, ltk6, ltk7, ltk8, ltk9, *]))
              replace V3 : w9.cell? ⟨w2.heap.size, 1, none⟩ = some (.int .i64 Q) := (hb.cell (by first | omega | (simp <;> omega))).trans (by (simp (maxDischargeDepth := 8) [go_sem, World.cell?_alloc_past, ltk2, ltk3, ltk4, ltk5, ltk6, ltk7, ltk8, ltk9, *]))
              replace V4 : w9.cell? ⟨w5.heap.size, 0, none⟩ = some (.int .i64 ad) := (hb.cell (by first | omega | (simp <;> omega))).trans (by (simp (maxDischargeDepth := 8) [go_sem, World.cell?_alloc_past, ltk2, ltk3, ltk4, ltk5, ltk6, ltk7, ltk8, ltk9, *]))
              replace V5 : w9.cell? ⟨w5.heap.size, 1, none⟩ = some (.int .i64 dd) := (hb.cell (by first | omega | (simp <;> omega))).trans (by (simp (maxDischargeDepth := 8) [go_sem, World.cell?_alloc_past, ltk2, ltk3, ltk4, ltk5, ltk6, ltk7, ltk8, ltk9, *]))
              replace V6 : w9.cell? ⟨w6.heap.size, 0, none⟩ = some (.int .i64 ag) := (hb.cell (by first | omega | (simp <;> omega))).trans (by (simp (maxDischargeDepth := 8) [go_sem, World.cell?_alloc_past, ltk2, ltk3, ltk4, ltk5, ltk6, ltk7, ltk8, ltk9, *]))
              replace V7 : w9.cell? ⟨w6.heap.size, 1, none⟩ = some (.int .i64 gd) := (hb.cell (by first | omega | (simp <;> omega))).trans (by (simp (maxDischargeDepth := 8) [go_sem, World.cell?_alloc_past, ltk2, ltk3, ltk4, ltk5, ltk6, ltk7, ltk8, ltk9, *]))
              clear hb HBd
              have zy9 : w.heap.size < w9.heap.size := by omega
              have zx9 : w.heap.size + 1 < w9.heap.size := by omega
              have zz_w2_9 : w2.heap.size < w9.heap.size := by omega
              have zz_w5_9 : w5.heap.size < w9.heap.size := by omega
              have zz_w6_9 : w6.heap.size < w9.heap.size := by omega
              go_wp2_with fail
              with_reducible refine (L2 _).mono ?_
              rintro e w10 ⟨rfl, hb⟩
              have HB10 : Below w.heap.size w w10 := by
                refine Below.trans ?_ (hb.mono ?_)
                · (repeat (first | exact HB9 | (refine bal ?_ _) | (refine below_drewN ?_ _) | (refine Below.drew ?_)))
                · first | omega | (simp <;> omega)
              have zs10 : w9.heap.size + 0 < w10.heap.size + 1 := by have := hb.size; (try simp at this); omega
              replace V0 : w10.cell? ⟨w.heap.size + 1, 0, none⟩ = some (.int .i64 n2) := (hb.cell (by first | omega | (simp <;> omega))).trans (by (simp (maxDischargeDepth := 8) [go_sem, World.cell?_alloc_past, ltk2, ltk3, ltk4, ltk5, ltk6, ltk7, ltk8, ltk9, *]))
              replace V1 : w10.cell? ⟨w.heap.size + 1, 1, none⟩ = some (.int .i64 d2) := (hb.cell (by first | omega | (simp <;> omega))).trans (by (simp (maxDischargeDepth := 8) [go_sem, World.cell?_alloc_past, ltk2, ltk3, ltk4, ltk5, ltk6, ltk7, ltk8, ltk9, *]))
              replace V2 : w10.cell? ⟨w2.heap.size, 0, none⟩ = some (.int .i64 P) := (hb.cell (by first | omega | (simp <;> omega))).trans (by (simp (maxDischargeDepth := 8) [go_sem, World.cell?_alloc_past, ltk2, ltk3, ltk4, ltk5, ltk6, ltk7, ltk8, ltk9, *]))
              replace V3 : w10.cell? ⟨w2.heap.size, 1, none⟩ = some (.int .i64 Q) := (hb.cell (by first | omega | (simp <;> omega))).trans (by (simp (maxDischargeDepth := 8) [go_sem, World.cell?_alloc_past, ltk2, ltk3, ltk4, ltk5, ltk6, ltk7, ltk8, ltk9, *]))
              replace V4 : w10.cell? ⟨w5.heap.size, 0, none⟩ = some (.int .i64 ad) := (hb.cell (by first | omega | (simp <;> omega))).trans (by (simp (maxDischargeDepth := 8) [go_sem, World.cell?_alloc_past, ltk2, ltk3, ltk4, ltk5, ltk6, ltk7, ltk8, ltk9, *]))
              replace V5 : w10.cell? ⟨w5.heap.size, 1, none⟩ = some (.int .i64 dd) := (hb.cell (by first | omega | (simp <;> omega))).trans (by (simp (maxDischargeDepth := 8) [go_sem, World.cell?_alloc_past, ltk2, ltk3, ltk4, ltk5, ltk6, ltk7, ltk8, ltk9, *]))
              replace V6 : w10.cell? ⟨w6.heap.size, 0, none⟩ = some (.int .i64 ag) := (hb.cell (by first | omega | (simp <;> omega))).trans (by (simp (maxDischargeDepth := 8) [go_sem, World.cell?_alloc_past, ltk2, ltk3, ltk4, ltk5, ltk6, ltk7, ltk8, ltk9, *]))
              replace V7 : w10.cell? ⟨w6.heap.size, 1, none⟩ = some (.int .i64 gd) := (hb.cell (by first | omega | (simp <;> omega))).trans (by (simp (maxDischargeDepth := 8) [go_sem, World.cell?_alloc_past, ltk2, ltk3, ltk4, ltk5, ltk6, ltk7, ltk8, ltk9, *]))
              clear hb HB9
              have zy10 : w.heap.size < w10.heap.size := by omega
              have zx10 : w.heap.size + 1 < w10.heap.size := by omega
              have zz_w2_10 : w2.heap.size < w10.heap.size := by omega
              have zz_w5_10 : w5.heap.size < w10.heap.size := by omega
              have zz_w6_10 : w6.heap.size < w10.heap.size := by omega
              go_wp2_with fail
              with_reducible refine (AA _).mono ?_
              rintro e w11 ⟨rfl, hb⟩
              have HB11 : Below w.heap.size w w11 := by
                refine Below.trans ?_ (hb.mono ?_)
                · (repeat (first | exact HB10 | (refine bal ?_ _) | (refine below_drewN ?_ _) | (refine Below.drew ?_)))
                · first | omega | (simp <;> omega)
              have zs11 : w10.heap.size + 0 < w11.heap.size + 1 := by have := hb.size; (try simp at this); omega
              replace V0 : w11.cell? ⟨w.heap.size + 1, 0, none⟩ = some (.int .i64 n2) := (hb.cell (by first | omega | (simp <;> omega))).trans (by (simp (maxDischargeDepth := 8) [go_sem, World.cell?_alloc_past, ltk2, ltk3, ltk4, ltk5, ltk6, ltk7, ltk8, ltk9, *]))
              replace V1 : w11.cell? ⟨w.heap.size + 1, 1, none⟩ = some (.int .i64 d2) := (hb.cell (by first | omega | (simp <;> omega))).trans (by (simp (maxDischargeDepth := 8) [go_sem, World.cell?_alloc_past, ltk2, ltk3, ltk4, ltk5, ltk6, ltk7, ltk8, ltk9, *]))
              replace V2 : w11.cell? ⟨w2.heap.size, 0, none⟩ = some (.int .i64 P) := (hb.cell (by first | omega | (simp <;> omega))).trans (by (simp (maxDischargeDepth := 8) [go_sem, World.cell?_alloc_past, ltk2, ltk3, ltk4, ltk5, ltk6, ltk7, ltk8, ltk9, *]))
              replace V3 : w11.cell? ⟨w2.heap.size, 1, none⟩ = some (.int .i64 Q) := (hb.cell (by first | omega | (simp <;> omega))).trans (by (simp (maxDischargeDepth := 8) [go_sem, World.cell?_alloc_past, ltk2, ltk3, ltk4, ltk5, ltk6, ltk7, ltk8, ltk9, *]))
              replace V4 : w11.cell? ⟨w5.heap.size, 0, none⟩ = some (.int .i64 ad) := (hb.cell (by first | omega | (simp <;> omega))).trans (by (simp (maxDischargeDepth := 8) [go_sem, World.cell?_alloc_past, ltk2, ltk3, ltk4, ltk5, ltk6, ltk7, ltk8, ltk9, *]))
              replace V5 : w11.cell? ⟨w5.heap.size, 1, none⟩ = some (.int .i64 dd) := (hb.cell (by first | omega | (simp <;> omega))).trans (by (simp (maxDischargeDepth := 8) [go_sem, World.cell?_alloc_past, ltk2, ltk3, ltk4, ltk5, ltk6, ltk7, ltk8, ltk9, *]))
              replace V6 : w11.cell? ⟨w6.heap.size, 0, none⟩ = some (.int .i64 ag) := (hb.cell (by first | omega | (simp <;> omega))).trans (by (simp (maxDischargeDepth := 8) [go_sem, World.cell?_alloc_past, ltk2, ltk3, ltk4, ltk5, ltk6, ltk7, ltk8, ltk9, *]))
              replace V7 : w11.cell? ⟨w6.heap.size, 1, none⟩ = some (.int .i64 gd) := (hb.cell (by first | omega | (simp <;> omega))).trans (by (simp (maxDischargeDepth := 8) [go_sem, World.cell?_alloc_past, ltk2, ltk3, ltk4, ltk5, ltk6, ltk7, ltk8, ltk9, *]))
              clear hb HB10
              have zy11 : w.heap.size < w11.heap.size := by omega
              have zx11 : w.heap.size + 1 < w11.heap.size := by omega
              have zz_w2_11 : w2.heap.size < w11.heap.size := by omega
              have zz_w5_11 : w5.heap.size < w11.heap.size := by omega
              have zz_w6_11 : w6.heap.size < w11.heap.size := by omega
              go_wp2_with fail
              go_ret
              exact ⟨rfl, by (repeat (first | with_reducible exact HB11 | (with_reducible refine bext ?_ _ _) | (with_reducible refine below_drewN ?_ _) | (with_reducible refine Below.drew ?_) | (with_reducible refine bal ?_ _) | (with_reducible refine bset ?_ (by first | omega | (simp <;> omega)) _)))⟩
            · have g3 : (ag = ad) = True := eq_true g1
              have g4 : (gd = dd) = False := eq_false g2
              clear K4 g1 g2 L2
              go_wp2_with fail
              with_reducible refine (L1 _).mono ?_
              rintro e w9 ⟨rfl, hb⟩
              have HB9 : Below w.heap.size w w9 := by
                refine Below.trans ?_ (hb.mono ?_)
                · (repeat (first | exact HBd | (refine bal ?_ _) | (refine below_drewN ?_ _) | (refine Below.drew ?_)))
                · first | omega | (simp <;> omega)
              have zs9 : wc.heap.size + 0 < w9.heap.size + 1 := by have := hb.size; (try simp at this); omega
              replace V0 : w9.cell? ⟨w.heap.size + 1, 0, none⟩ = some (.int .i64 n2) := (hb.cell (by first | omega | (simp <;> omega))).trans (by (simp (maxDischargeDepth := 8) [go_sem, World.cell?_alloc_past, ltk2, ltk3, ltk4, ltk5, ltk6, ltk7, ltk8, ltk9, *]))
              replace V1 : w9.cell? ⟨w.heap.size + 1, 1, none⟩ = some (.int .i64 d2) := (hb.cell (by first | omega | (simp <;> omega))).trans (by (simp (maxDischargeDepth := 8) [go_sem, World.cell?_alloc_past, ltk2, ltk3, ltk4, ltk5, ltk6, ltk7, ltk8, ltk9, *]))
              replace V2 : w9.cell? ⟨w2.heap.size, 0, none⟩ = some (.int .i64 P) := (hb.cell (by first | omega | (simp <;> omega))).trans (by (simp (maxDischargeDepth := 8) [go_sem, World.cell?_alloc_past, ltk2, ltk3, ltk4, ltk5, ltk6, ltk7, ltk8, ltk9, *]))
              replace V3 : w9.cell? ⟨w2.heap.size, 1, none⟩ = some (.int .i64 Q) := (hb.cell (by first | omega | (simp <;> omega))).trans (by (simp (maxDischargeDepth := 8) [go_sem, World.cell?_alloc_past, ltk2, ltk3, ltk4, ltk5, ltk6, ltk7, ltk8, ltk9, *]))
              replace V4 : w9.cell? ⟨w5.heap.size, 0, none⟩ = some (.int .i64 ad) := (hb.cell (by first | omega | (simp <;> omega))).trans (by (simp (maxDischargeDepth := 8) [go_sem, World.cell?_alloc_past, ltk2, ltk3, ltk4, ltk5, ltk6, ltk7, ltk8, ltk9, *]))
              replace V5 : w9.cell? ⟨w5.heap.size, 1, none⟩ = some (.int .i64 dd) := (hb.cell (by first | omega | (simp <;> omega))).trans (by (simp (maxDischargeDepth := 8) [go_sem, World.cell?_alloc_past, ltk2, ltk3, ltk4, ltk5, ltk6, ltk7, ltk8, ltk9, *]))
              replace V6 : w9.cell? ⟨w6.heap.size, 0, none⟩ = some (.int .i64 ag) := (hb.cell (by first | omega | (simp <;> omega))).trans (by (simp (maxDischargeDepth := 8) [go_sem, World.cell?_alloc_past, ltk2, ltk3, ltk4, ltk5, ltk6, ltk7, ltk8, ltk9, *]))
              replace V7 : w9.cell? ⟨w6.heap.size, 1, none⟩ = some (.int .i64 gd) := (hb.cell (by first | omega | (simp <;> omega))).trans (by (simp (maxDischargeDepth := 8) [go_sem, World.cell?_alloc_past, ltk2, ltk3, ltk4, ltk5, ltk6, ltk7, ltk8, ltk9, *]))
              clear hb HBd
              have zy9 : w.heap.size < w9.heap.size := by omega
              have zx9 : w.heap.size + 1 < w9.heap.size := by omega
              have zz_w2_9 : w2.heap.size < w9.heap.size := by omega
              have zz_w5_9 : w5.heap.size < w9.heap.size := by omega
              have zz_w6_9 : w6.heap.size < w9.heap.size := by omega
              go_wp2_with fail
              with_reducible refine (AA _).mono ?_
              rintro e w10 ⟨rfl, hb⟩
              have HB10 : Below w.heap.size w w10 := by
                refine Below.trans ?_ (hb.mono ?_)
                · (repeat (first | exact HB9 | (refine bal ?_ _) | (refine below_drewN ?_ _) | (refine Below.drew ?_)))
                · first | omega | (simp <;> omega)
              have zs10 : w9.heap.size + 0 < w10.heap.size + 1 := by have := hb.size; (try simp at this); omega
              replace V0 : w10.cell? ⟨w.heap.size + 1, 0, none⟩ = some (.int .i64 n2) := (hb.cell (by first | omega | (simp <;> omega))).trans (by (simp (maxDischargeDepth := 8) [go_sem, World.cell?_alloc_past, ltk2, ltk3, ltk4, ltk5, ltk6, ltk7, ltk8, ltk9, *]))
              replace V1 : w10.cell? ⟨w.heap.size + 1, 1, none⟩ = some (.int .i64 d2) := (hb.cell (by first | omega | (simp <;> omega))).trans (by (simp (maxDischargeDepth := 8) [go_sem, World.cell?_alloc_past, ltk2, ltk3, ltk4, ltk5, ltk6, ltk7, ltk8, ltk9, *]))
              replace V2 : w10.cell? ⟨w2.heap.size, 0, none⟩ = some (.int .i64 P) := (hb.cell (by first | omega | (simp <;> omega))).trans (by (simp (maxDischargeDepth := 8) [go_sem, World.cell?_alloc_past, ltk2, ltk3, ltk4, ltk5, ltk6, ltk7, ltk8, ltk9, *]))
              replace V3 : w10.cell? ⟨w2.heap.size, 1, none⟩ = some (.int .i64 Q) := (hb.cell (by first | omega | (simp <;> omega))).trans (by (simp (maxDischargeDepth := 8) [go_sem, World.cell?_alloc_past, ltk2, ltk3, ltk4, ltk5, ltk6, ltk7, ltk8, ltk9, *]))
              replace V4 : w10.cell? ⟨w5.heap.size, 0, none⟩ = some (.int .i64 ad) := (hb.cell (by first | omega | (simp <;> omega))).trans (by (simp (maxDischargeDepth := 8) [go_sem, World.cell?_alloc_past, ltk2, ltk3, ltk4, ltk5, ltk6, ltk7, ltk8, ltk9, *]))
              replace V5 : w10.cell? ⟨w5.heap.size, 1, none⟩ = some (.int .i64 dd) := (hb.cell (by first | omega | (simp <;> omega))).trans (by (simp (maxDischargeDepth := 8) [go_sem, World.cell?_alloc_past, ltk2, ltk3, ltk4, ltk5, ltk6, ltk7, ltk8, ltk9, *]))
              replace V6 : w10.cell? ⟨w6.heap.size, 0, none⟩ = some (.int .i64 ag) := (hb.cell (by first | omega | (simp <;> omega))).trans (by (simp (maxDischargeDepth := 8) [go_sem, World.cell?_alloc_past, ltk2, ltk3, ltk4, ltk5, ltk6, ltk7, ltk8, ltk9, *]))
              replace V7 : w10.cell? ⟨w6.heap.size, 1, none⟩ = some (.int .i64 gd) := (hb.cell (by first | omega | (simp <;> omega))).trans (by (simp (maxDischargeDepth := 8) [go_sem, World.cell?_alloc_past, ltk2, ltk3, ltk4, ltk5, ltk6, ltk7, ltk8, ltk9, *]))
              clear hb HB9
              have zy10 : w.heap.size < w10.heap.size := by omega
              have zx10 : w.heap.size + 1 < w10.heap.size := by omega
              have zz_w2_10 : w2.heap.size < w10.heap.size := by omega
              have zz_w5_10 : w5.heap.size < w10.heap.size := by omega
              have zz_w6_10 : w6.heap.size < w10.heap.size := by omega
              go_wp2_with fail
              go_ret
              exact ⟨rfl, by (repeat (first | with_reducible exact HB10 | (with_reducible refine bext ?_ _ _) | (with_reducible refine below_drewN ?_ _) | (with_reducible refine Below.drew ?_) | (with_reducible refine bal ?_ _) | (with_reducible refine bset ?_ (by first | omega | (simp <;> omega)) _)))⟩
          · have g3 : (ag = ad) = False := eq_false g1
            clear K4 g1 L2
            go_wp2_with fail
            with_reducible refine (L1 _).mono ?_
            rintro e w9 ⟨rfl, hb⟩
            have HB9 : Below w.heap.size w w9 := by
              refine Below.trans ?_ (hb.mono ?_)
              · (repeat (first | exact HBd | (refine bal ?_ _) | (refine below_drewN ?_ _) | (refine Below.drew ?_)))
              · first | omega | (simp <;> omega)
            have zs9 : wc.heap.size + 0 < w9.heap.size + 1 := by have := hb.size; (try simp at this); omega
            replace V0 : w9.cell? ⟨w.heap.size + 1, 0, none⟩ = some (.int .i64 n2) := (hb.cell (by first | omega | (simp <;> omega))).trans (by (simp (maxDischargeDepth := 8) [go_sem, World.cell?_alloc_past, ltk2, ltk3, ltk4, ltk5, ltk6, ltk7, ltk8, ltk9, *]))
            replace V1 : w9.cell? ⟨w.heap.size + 1, 1, none⟩ = some (.int .i64 d2) := (hb.cell (by first | omega | (simp <;> omega))).trans (by (simp (maxDischargeDepth := 8) [go_sem, World.cell?_alloc_past, ltk2, ltk3, ltk4, ltk5, ltk6, ltk7, ltk8, ltk9, *]))
            replace V2 : w9.cell? ⟨w2.heap.size, 0, none⟩ = some (.int .i64 P) := (hb.cell (by first | omega | (simp <;> omega))).trans (by (simp (maxDischargeDepth := 8) [go_sem, World.cell?_alloc_past, ltk2, ltk3, ltk4, ltk5, ltk6, ltk7, ltk8, ltk9, *]))
            replace V3 : w9.cell? ⟨w2.heap.size, 1, none⟩ = some (.int .i64 Q) := (hb.cell (by first | omega | (simp <;> omega))).trans (by (simp (maxDischargeDepth := 8) [go_sem, World.cell?_alloc_past, ltk2, ltk3, ltk4, ltk5, ltk6, ltk7, ltk8, ltk9, *]))
            replace V4 : w9.cell? ⟨w5.heap.size, 0, none⟩ = some (.int .i64 ad) := (hb.cell (by first | omega | (simp <;> omega))).trans (by (simp (maxDischargeDepth := 8) [go_sem, World.cell?_alloc_past, ltk2, ltk3, ltk4, ltk5, ltk6, ltk7, ltk8, ltk9, *]))
            replace V5 : w9.cell? ⟨w5.heap.size, 1, none⟩ = some (.int .i64 dd) := (hb.cell (by first | omega | (simp <;> omega))).trans (by (simp (maxDischargeDepth := 8) [go_sem, World.cell?_alloc_past, ltk2, ltk3, ltk4, ltk5, ltk6, ltk7, ltk8, ltk9, *]))
            replace V6 : w9.cell? ⟨w6.heap.size, 0, none⟩ = some (.int .i64 ag) := (hb.cell (by first | omega | (simp <;> omega))).trans (by (simp (maxDischargeDepth := 8) [go_sem, World.cell?_alloc_past, ltk2, ltk3, ltk4, ltk5, ltk6, ltk7, ltk8, ltk9, *]))
            replace V7 : w9.cell? ⟨w6.heap.size, 1, none⟩ = some (.int .i64 gd) := (hb.cell (by first | omega | (simp <;> omega))).trans (by (simp (maxDischargeDepth := 8) [go_sem, World.cell?_alloc_past, ltk2, ltk3, ltk4, ltk5, ltk6, ltk7, ltk8, ltk9, *]))
            clear hb HBd
            have zy9 : w.heap.size < w9.heap.size := by omega
            have zx9 : w.heap.size + 1 < w9.heap.size := by omega
            have zz_w2_9 : w2.heap.size < w9.heap.size := by omega
            have zz_w5_9 : w5.heap.size < w9.heap.size := by omega
            have zz_w6_9 : w6.heap.size < w9.heap.size := by omega
            go_wp2_with fail
            with_reducible refine (AA _).mono ?_
            rintro e w10 ⟨rfl, hb⟩
            have HB10 : Below w.heap.size w w10 := by
              refine Below.trans ?_ (hb.mono ?_)
              · (repeat (first | exact HB9 | (refine bal ?_ _) | (refine below_drewN ?_ _) | (refine Below.drew ?_)))
              · first | omega | (simp <;> omega)
            have zs10 : w9.heap.size + 0 < w10.heap.size + 1 := by have := hb.size; (try simp at this); omega
            replace V0 : w10.cell? ⟨w.heap.size + 1, 0, none⟩ = some (.int .i64 n2) := (hb.cell (by first | omega | (simp <;> omega))).trans (by (simp (maxDischargeDepth := 8) [go_sem, World.cell?_alloc_past, ltk2, ltk3, ltk4, ltk5, ltk6, ltk7, ltk8, ltk9, *]))
            replace V1 : w10.cell? ⟨w.heap.size + 1, 1, none⟩ = some (.int .i64 d2) := (hb.cell (by first | omega | (simp <;> omega))).trans (by (simp (maxDischargeDepth := 8) [go_sem, World.cell?_alloc_past, ltk2, ltk3, ltk4, ltk5, ltk6, ltk7, ltk8, ltk9, *]))
            replace V2 : w10.cell? ⟨w2.heap.size, 0, none⟩ = some (.int .i64 P) := (hb.cell (by first | omega | (simp <;> omega))).trans (by (simp (maxDischargeDepth := 8) [go_sem, World.cell?_alloc_past, ltk2, ltk3, ltk4, ltk5, ltk6, ltk7, ltk8, ltk9, *]))
            replace V3 : w10.cell? ⟨w2.heap.size, 1, none⟩ = some (.int .i64 Q) := (hb.cell (by first | omega | (simp <;> omega))).trans (by (simp (maxDischargeDepth := 8) [go_sem, World.cell?_alloc_past, ltk2, ltk3, ltk4, ltk5, ltk6, ltk7, ltk8, ltk9, *]))
            replace V4 : w10.cell? ⟨w5.heap.size, 0, none⟩ = some (.int .i64 ad) := (hb.cell (by first | omega | (simp <;> omega))).trans (by (simp (maxDischargeDepth := 8) [go_sem, World.cell?_alloc_past, ltk2, ltk3, ltk4, ltk5, ltk6, ltk7, ltk8, ltk9, *]))
            replace V5 : w10.cell? ⟨w5.heap.size, 1, none⟩ = some (.int .i64 dd) := (hb.cell (by first | omega | (simp <;> omega))).trans (by (simp (maxDischargeDepth := 8) [go_sem, World.cell?_alloc_past, ltk2, ltk3, ltk4, ltk5, ltk6, ltk7, ltk8, ltk9, *]))
            replace V6 : w10.cell? ⟨w6.heap.size, 0, none⟩ = some (.int .i64 ag) := (hb.cell (by first | omega | (simp <;> omega))).trans (by (simp (maxDischargeDepth := 8) [go_sem, World.cell?_alloc_past, ltk2, ltk3, ltk4, ltk5, ltk6, ltk7, ltk8, ltk9, *]))
            replace V7 : w10.cell? ⟨w6.heap.size, 1, none⟩ = some (.int .i64 gd) := (hb.cell (by first | omega | (simp <;> omega))).trans (by (simp (maxDischargeDepth := 8) [go_sem, World.cell?_alloc_past, ltk2, ltk3, ltk4, ltk5, ltk6, ltk7, ltk8, ltk9, *]))
            clear hb HB9
            have zy10 : w.heap.size < w10.heap.size := by omega
            have zx10 : w.heap.size + 1 < w10.heap.size := by omega
            have zz_w2_10 : w2.heap.size < w10.heap.size := by omega
            have zz_w5_10 : w5.heap.size < w10.heap.size := by omega
            have zz_w6_10 : w6.heap.size < w10.heap.size := by omega
            go_wp2_with fail
            go_ret
            exact ⟨rfl, by (repeat (first | with_reducible exact HB10 | (with_reducible refine bext ?_ _ _) | (with_reducible refine below_drewN ?_ _) | (with_reducible refine Below.drew ?_) | (with_reducible refine bal ?_ _) | (with_reducible refine bset ?_ (by first | omega | (simp <;> omega)) _)))⟩
    · subst h1
      have e2 : (gE == 0) = false := by simp [h2]
      clear NUM h2
      go_wp2_with fail
      with_reducible refine (AA _).mono ?_
      rintro e w7 ⟨rfl, hb⟩
      have HB7 : Below w.heap.size w w7 := by
        refine Below.trans ?_ (hb.mono ?_)
        · (repeat (first | exact HB6 | (refine bal ?_ _) | (refine below_drewN ?_ _) | (refine Below.drew ?_)))
        · first | omega | (simp <;> omega)
      have zs7 : w6.heap.size + 1 < w7.heap.size + 1 := by have := hb.size; (try simp at this); omega
      replace ka : w7.cell? ⟨w.heap.size, 0, none⟩ = some (.int .i64 n1) := (hb.cell (by first | omega | (simp <;> omega))).trans (by (simp (maxDischargeDepth := 8) [go_sem, World.cell?_alloc_past, ltk2, ltk3, ltk4, ltk5, ltk6, ltk7, ltk8, ltk9, *]))
      replace kb : w7.cell? ⟨w.heap.size, 1, none⟩ = some (.int .i64 d1) := (hb.cell (by first | omega | (simp <;> omega))).trans (by (simp (maxDischargeDepth := 8) [go_sem, World.cell?_alloc_past, ltk2, ltk3, ltk4, ltk5, ltk6, ltk7, ltk8, ltk9, *]))
      replace kc : w7.cell? ⟨w.heap.size + 1, 0, none⟩ = some (.int .i64 n2) := (hb.cell (by first | omega | (simp <;> omega))).trans (by (simp (maxDischargeDepth := 8) [go_sem, World.cell?_alloc_past, ltk2, ltk3, ltk4, ltk5, ltk6, ltk7, ltk8, ltk9, *]))
      replace kd : w7.cell? ⟨w.heap.size + 1, 1, none⟩ = some (.int .i64 d2) := (hb.cell (by first | omega | (simp <;> omega))).trans (by (simp (maxDischargeDepth := 8) [go_sem, World.cell?_alloc_past, ltk2, ltk3, ltk4, ltk5, ltk6, ltk7, ltk8, ltk9, *]))
      replace r2_0 : w7.cell? ⟨w2.heap.size, 0, none⟩ = some (.int .i64 P) := (hb.cell (by first | omega | (simp <;> omega))).trans (by (simp (maxDischargeDepth := 8) [go_sem, World.cell?_alloc_past, ltk2, ltk3, ltk4, ltk5, ltk6, ltk7, ltk8, ltk9, *]))
      replace r2_1 : w7.cell? ⟨w2.heap.size, 1, none⟩ = some (.int .i64 Q) := (hb.cell (by first | omega | (simp <;> omega))).trans (by (simp (maxDischargeDepth := 8) [go_sem, World.cell?_alloc_past, ltk2, ltk3, ltk4, ltk5, ltk6, ltk7, ltk8, ltk9, *]))
      replace r3_0 : w7.cell? ⟨w3.heap.size, 0, none⟩ = some (.int .i64 n1) := (hb.cell (by first | omega | (simp <;> omega))).trans (by (simp (maxDischargeDepth := 8) [go_sem, World.cell?_alloc_past, ltk2, ltk3, ltk4, ltk5, ltk6, ltk7, ltk8, ltk9, *]))
      replace r3_1 : w7.cell? ⟨w3.heap.size, 1, none⟩ = some (.int .i64 d1) := (hb.cell (by first | omega | (simp <;> omega))).trans (by (simp (maxDischargeDepth := 8) [go_sem, World.cell?_alloc_past, ltk2, ltk3, ltk4, ltk5, ltk6, ltk7, ltk8, ltk9, *]))
      replace r5_0 : w7.cell? ⟨w5.heap.size, 0, none⟩ = some (.int .i64 dn) := (hb.cell (by first | omega | (simp <;> omega))).trans (by (simp (maxDischargeDepth := 8) [go_sem, World.cell?_alloc_past, ltk2, ltk3, ltk4, ltk5, ltk6, ltk7, ltk8, ltk9, *]))
      replace r5_1 : w7.cell? ⟨w5.heap.size, 1, none⟩ = some (.int .i64 dd) := (hb.cell (by first | omega | (simp <;> omega))).trans (by (simp (maxDischargeDepth := 8) [go_sem, World.cell?_alloc_past, ltk2, ltk3, ltk4, ltk5, ltk6, ltk7, ltk8, ltk9, *]))
      replace f5_0 : w7.frozen? ⟨w5.heap.size, 0, none⟩ = false := (hb.frozen (by first | omega | (simp <;> omega))).trans (by (simp (maxDischargeDepth := 8) [go_sem, World.cell?_alloc_past, ltk2, ltk3, ltk4, ltk5, ltk6, ltk7, ltk8, ltk9, *]))
      replace f5_1 : w7.frozen? ⟨w5.heap.size, 1, none⟩ = false := (hb.frozen (by first | omega | (simp <;> omega))).trans (by (simp (maxDischargeDepth := 8) [go_sem, World.cell?_alloc_past, ltk2, ltk3, ltk4, ltk5, ltk6, ltk7, ltk8, ltk9, *]))
      have r6_0 : w7.cell? ⟨w6.heap.size, 0, none⟩ = some (.int .i64 gn) := (hb.cell (by first | omega | (simp <;> omega))).trans (by (simp (maxDischargeDepth := 8) [go_sem, World.cell?_alloc_past, ltk2, ltk3, ltk4, ltk5, ltk6, ltk7, ltk8, ltk9, *]))
      have r6_1 : w7.cell? ⟨w6.heap.size, 1, none⟩ = some (.int .i64 gd) := (hb.cell (by first | omega | (simp <;> omega))).trans (by (simp (maxDischargeDepth := 8) [go_sem, World.cell?_alloc_past, ltk2, ltk3, ltk4, ltk5, ltk6, ltk7, ltk8, ltk9, *]))
      have f6_0 : w7.frozen? ⟨w6.heap.size, 0, none⟩ = false := (hb.frozen (by first | omega | (simp <;> omega))).trans (by (simp (maxDischargeDepth := 8) [go_sem, World.cell?_alloc_past, ltk2, ltk3, ltk4, ltk5, ltk6, ltk7, ltk8, ltk9, *]))
      have f6_1 : w7.frozen? ⟨w6.heap.size, 1, none⟩ = false := (hb.frozen (by first | omega | (simp <;> omega))).trans (by (simp (maxDischargeDepth := 8) [go_sem, World.cell?_alloc_past, ltk2, ltk3, ltk4, ltk5, ltk6, ltk7, ltk8, ltk9, *]))
      clear hb HB6
      have zy7 : w.heap.size < w7.heap.size := by omega
      have zx7 : w.heap.size + 1 < w7.heap.size := by omega
      have zz_w2_7 : w2.heap.size < w7.heap.size := by omega
      have zz_w3_7 : w3.heap.size < w7.heap.size := by omega
      have zz_w5_7 : w5.heap.size < w7.heap.size := by omega
      have zz_w6_7 : w6.heap.size < w7.heap.size := by omega
      go_wp2_with fail
      go_ret
      exact ⟨rfl, by (repeat (first | with_reducible exact HB7 | (with_reducible refine bext ?_ _ _) | (with_reducible refine below_drewN ?_ _) | (with_reducible refine Below.drew ?_) | (with_reducible refine bal ?_ _) | (with_reducible refine bset ?_ (by first | omega | (simp <;> omega)) _)))⟩
  · have e1 : (dE == 0) = false := by simp [h1]
    clear NUM h1
    go_wp2_with fail
    with_reducible refine (AA _).mono ?_
    rintro e w7 ⟨rfl, hb⟩
    have HB7 : Below w.heap.size w w7 := by
      refine Below.trans ?_ (hb.mono ?_)
      · (repeat (first | exact HB6 | (refine bal ?_ _) | (refine below_drewN ?_ _) | (refine Below.drew ?_)))
      · first | omega | (simp <;> omega)
    have zs7 : w6.heap.size + 1 < w7.heap.size + 1 := by have := hb.size; (try simp at this); omega
    replace ka : w7.cell? ⟨w.heap.size, 0, none⟩ = some (.int .i64 n1) := (hb.cell (by first | omega | (simp <;> omega))).trans (by (simp (maxDischargeDepth := 8) [go_sem, World.cell?_alloc_past, ltk2, ltk3, ltk4, ltk5, ltk6, ltk7, ltk8, ltk9, *]))
    replace kb : w7.cell? ⟨w.heap.size, 1, none⟩ = some (.int .i64 d1) := (hb.cell (by first | omega | (simp <;> omega))).trans (by (simp (maxDischargeDepth := 8) [go_sem, World.cell?_alloc_past, ltk2, ltk3, ltk4, ltk5, ltk6, ltk7, ltk8, ltk9, *]))
    replace kc : w7.cell? ⟨w.heap.size + 1, 0, none⟩ = some (.int .i64 n2) := (hb.cell (by first | omega | (simp <;> omega))).trans (by (simp (maxDischargeDepth := 8) [go_sem, World.cell?_alloc_past, ltk2, ltk3, ltk4, ltk5, ltk6, ltk7, ltk8, ltk9, *]))
    replace kd : w7.cell? ⟨w.heap.size + 1, 1, none⟩ = some (.int .i64 d2) := (hb.cell (by first | omega | (simp <;> omega))).trans (by (simp (maxDischargeDepth := 8) [go_sem, World.cell?_alloc_past, ltk2, ltk3, ltk4, ltk5, ltk6, ltk7, ltk8, ltk9, *]))
    replace r2_0 : w7.cell? ⟨w2.heap.size, 0, none⟩ = some (.int .i64 P) := (hb.cell (by first | omega | (simp <;> omega))).trans (by (simp (maxDischargeDepth := 8) [go_sem, World.cell?_alloc_past, ltk2, ltk3, ltk4, ltk5, ltk6, ltk7, ltk8, ltk9, *]))
    replace r2_1 : w7.cell? ⟨w2.heap.size, 1, none⟩ = some (.int .i64 Q) := (hb.cell (by first | omega | (simp <;> omega))).trans (by (simp (maxDischargeDepth := 8) [go_sem, World.cell?_alloc_past, ltk2, ltk3, ltk4, ltk5, ltk6, ltk7, ltk8, ltk9, *]))
    replace r3_0 : w7.cell? ⟨w3.heap.size, 0, none⟩ = some (.int .i64 n1) := (hb.cell (by first | omega | (simp <;> omega))).trans (by (simp (maxDischargeDepth := 8) [go_sem, World.cell?_alloc_past, ltk2, ltk3, ltk4, ltk5, ltk6, ltk7, ltk8, ltk9, *]))
    replace r3_1 : w7.cell? ⟨w3.heap.size, 1, none⟩ = some (.int .i64 d1) := (hb.cell (by first | omega | (simp <;> omega))).trans (by (simp (maxDischargeDepth := 8) [go_sem, World.cell?_alloc_past, ltk2, ltk3, ltk4, ltk5, ltk6, ltk7, ltk8, ltk9, *]))
    replace r5_0 : w7.cell? ⟨w5.heap.size, 0, none⟩ = some (.int .i64 dn) := (hb.cell (by first | omega | (simp <;> omega))).trans (by (simp (maxDischargeDepth := 8) [go_sem, World.cell?_alloc_past, ltk2, ltk3, ltk4, ltk5, ltk6, ltk7, ltk8, ltk9, *]))
    replace r5_1 : w7.cell? ⟨w5.heap.size, 1, none⟩ = some (.int .i64 dd) := (hb.cell (by first | omega | (simp <;> omega))).trans (by (simp (maxDischargeDepth := 8) [go_sem, World.cell?_alloc_past, ltk2, ltk3, ltk4, ltk5, ltk6, ltk7, ltk8, ltk9, *]))
    replace f5_0 : w7.frozen? ⟨w5.heap.size, 0, none⟩ = false := (hb.frozen (by first | omega | (simp <;> omega))).trans (by (simp (maxDischargeDepth := 8) [go_sem, World.cell?_alloc_past, ltk2, ltk3, ltk4, ltk5, ltk6, ltk7, ltk8, ltk9, *]))
    replace f5_1 : w7.frozen? ⟨w5.heap.size, 1, none⟩ = false := (hb.frozen (by first | omega | (simp <;> omega))).trans (by (simp (maxDischargeDepth := 8) [go_sem, World.cell?_alloc_past, ltk2, ltk3, ltk4, ltk5, ltk6, ltk7, ltk8, ltk9, *]))
    have r6_0 : w7.cell? ⟨w6.heap.size, 0, none⟩ = some (.int .i64 gn) := (hb.cell (by first | omega | (simp <;> omega))).trans (by (simp (maxDischargeDepth := 8) [go_sem, World.cell?_alloc_past, ltk2, ltk3, ltk4, ltk5, ltk6, ltk7, ltk8, ltk9, *]))
    have r6_1 : w7.cell? ⟨w6.heap.size, 1, none⟩ = some (.int .i64 gd) := (hb.cell (by first | omega | (simp <;> omega))).trans (by (simp (maxDischargeDepth := 8) [go_sem, World.cell?_alloc_past, ltk2, ltk3, ltk4, ltk5, ltk6, ltk7, ltk8, ltk9, *]))
    have f6_0 : w7.frozen? ⟨w6.heap.size, 0, none⟩ = false := (hb.frozen (by first | omega | (simp <;> omega))).trans (by (simp (maxDischargeDepth := 8) [go_sem, World.cell?_alloc_past, ltk2, ltk3, ltk4, ltk5, ltk6, ltk7, ltk8, ltk9, *]))
    have f6_1 : w7.frozen? ⟨w6.heap.size, 1, none⟩ = false := (hb.frozen (by first | omega | (simp <;> omega))).trans (by (simp (maxDischargeDepth := 8) [go_sem, World.cell?_alloc_past, ltk2, ltk3, ltk4, ltk5, ltk6, ltk7, ltk8, ltk9, *]))
    clear hb HB6
    have zy7 : w.heap.size < w7.heap.size := by omega
    have zx7 : w.heap.size + 1 < w7.heap.size := by omega
    have zz_w2_7 : w2.heap.size < w7.heap.size := by omega
    have zz_w3_7 : w3.heap.size < w7.heap.size := by omega
    have zz_w5_7 : w5.heap.size < w7.heap.size := by omega
    have zz_w6_7 : w6.heap.size < w7.heap.size := by omega
    go_wp2_with fail
    go_ret
    exact ⟨rfl, by (repeat (first | with_reducible exact HB7 | (with_reducible refine bext ?_ _ _) | (with_reducible refine below_drewN ?_ _) | (with_reducible refine Below.drew ?_) | (with_reducible refine bal ?_ _) | (with_reducible refine bset ?_ (by first | omega | (simp <;> omega)) _)))⟩
end Go.Proofs.Ytbckjccbihnlnaa
