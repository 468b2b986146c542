/-
  The law on the field, walked: where the fractions are valid, way 3 of comparing them.
-/
import Derived.Test.YtbckjccbihnlnaaFan
import Derived.Test.YtbckjccbihnlnaaFva
import Derived.Test.YtbckjccbihnlnaaFxp
import Derived.Test.YtbckjccbihnlnaaFbn
namespace Go.Proofs.Ytbckjccbihnlnaa
open Go.RowKit
set_option linter.unusedVariables false
set_option linter.unusedSimpArgs false

set_option maxRecDepth 100000 in
set_option maxHeartbeats 6400000 in
theorem field_ok3 (n1 d1 n2 d2 : Int) (o1 : okF n1 d1 = true) (o2 : okF n2 d2 = true) (w : World) (h1 : (n1 = n2) = True) (h2 : (d1 = d2) = False) (hu : (coV n1 d1 n2 d2 == 0) = false) :
    Calls Try.prog 4 #[.agg #[.int .i64 n1, .int .i64 d1], .agg #[.int .i64 n2, .int .i64 d2]] w fun e w' => e = .returned (.bool true) ∧ Below w.heap.size w w' := by
  obtain ⟨a3, a4, a1, a2, a5⟩ := okF_out o1
  obtain ⟨c3, c4, c1, c2, c5⟩ := okF_out o2
  have A0 := fun w => law_valid n1 d1 n2 d2 (by omega) (by omega) (by omega) (by omega) (by omega) (by omega) (by omega) (by omega) w
  rw [decide_eq_true (show okF n1 d1 = true ∧ okF n2 d2 = true from ⟨o1, o2⟩)] at A0
  have A1 := fun w => frac_Add n1 d1 n2 d2 (by omega) (by omega) (by omega) (by omega) (by omega) (by omega) (by omega) (by omega) w
  have A2 := fun w => frac_Add n2 d2 n1 d1 (by omega) (by omega) (by omega) (by omega) (by omega) (by omega) (by omega) (by omega) w
  rw [← (ad_comm n1 d1 n2 d2).1, ← (ad_comm n1 d1 n2 d2).2.1, ← (ad_comm n1 d1 n2 d2).2.2] at A2
  have A3 := fun w => frac_Mul n1 d1 n2 d2 (by omega) (by omega) (by omega) (by omega) (by omega) (by omega) (by omega) (by omega) w
  have A4 := fun w => frac_Mul n2 d2 n1 d1 (by omega) (by omega) (by omega) (by omega) (by omega) (by omega) (by omega) (by omega) w
  rw [← (mu_comm n1 d1 n2 d2).1, ← (mu_comm n1 d1 n2 d2).2.1, ← (mu_comm n1 d1 n2 d2).2.2] at A4
  have A5 := fun w => frac_Sub n1 d1 n2 d2 (by omega) (by omega) (by omega) (by omega) (by omega) (by omega) (by omega) (by omega) w
  have A6 := fun w => frac_Cmp n1 d1 n2 d2 (by omega) (by omega) (by omega) (by omega) (by omega) (by omega) (by omega) (by omega) w
  rw [show chk2 n1 d1 n2 d2 = 0 by rw [chk2, if_pos o1, chkI, if_pos o2]] at A6
  have A7 : Hid (adE n1 d1 (-n2) d2 = 0 → ∀ w, Calls Try.prog 21 #[.agg #[.int .i64 (adN n1 d1 (-n2) d2), .int .i64 (adD n1 d1 (-n2) d2)], .agg #[.int .i64 n2, .int .i64 d2]] w fun e w' => e = .returned (.tuple #[.agg #[.int .i64 n1, .int .i64 d1], .int .i64 0]) ∧ Below w.heap.size w w') := Lib.hid (by
    intro h w
    obtain ⟨k1, k2⟩ := sub_abs n1 d1 n2 d2 o1 o2 h
    obtain ⟨y1, y2, y3, y4, y5⟩ := okF_out k1
    obtain ⟨e1, e2, e3⟩ := sub_add n1 d1 n2 d2 o1 o2 h
    have := frac_Add (adN n1 d1 (-n2) d2) (adD n1 d1 (-n2) d2) n2 d2 (by omega) (by omega) (by omega) (by omega) (by omega) (by omega) (by omega) (by omega) w
    rw [e1, e2, e3] at this
    exact this)
  have A8 := fun w => frac_Div n1 d1 n2 d2 (by omega) (by omega) (by omega) (by omega) (by omega) (by omega) (by omega) (by omega) w
  have A9 : Hid (¬ n2 = 0 → dvE n1 d1 n2 d2 = 0 → ∀ w, Calls Try.prog 13 #[.agg #[.int .i64 (dvN n1 d1 n2 d2), .int .i64 (dvD n1 d1 n2 d2)], .agg #[.int .i64 n2, .int .i64 d2]] w fun e w' => e = .returned (.tuple #[.agg #[.int .i64 n1, .int .i64 d1], .int .i64 0]) ∧ Below w.heap.size w w') := Lib.hid (by
    intro hz h w
    obtain ⟨y1, y2, y3, y4, y5⟩ := okF_out (div_ok n1 d1 n2 d2 o1 o2 hz h)
    obtain ⟨e1, e2, e3⟩ := div_mul n1 d1 n2 d2 o1 o2 hz h
    have := frac_Mul (dvN n1 d1 n2 d2) (dvD n1 d1 n2 d2) n2 d2 (by omega) (by omega) (by omega) (by omega) (by omega) (by omega) (by omega) (by omega) w
    rw [e1, e2, e3] at this
    exact this)
  have AA := fun w => law_alive w
  have SG : Hid (adE n1 d1 (-n2) d2 = 0 → (0 < adN n1 d1 (-n2) d2 ↔ 0 < coV n1 d1 n2 d2) ∧ (adN n1 d1 (-n2) d2 < 0 ↔ coV n1 d1 n2 d2 < 0)) := Lib.hid (sub_sign n1 d1 n2 d2 o1 o2)
  have DV : Hid ((n2 = 0 → dvE n1 d1 n2 d2 = 18) ∧ (¬ n2 = 0 → dvE n1 d1 n2 d2 = 0 ∨ dvE n1 d1 n2 d2 = 16)) := Lib.hid (div_err n1 d1 n2 d2 o1 o2)
  generalize adN n1 d1 n2 d2 = x1 at *
  generalize adD n1 d1 n2 d2 = x2 at *
  generalize adE n1 d1 n2 d2 = x3 at *
  generalize muN n1 d1 n2 d2 = y1 at *
  generalize muD n1 d1 n2 d2 = y2 at *
  generalize muE n1 d1 n2 d2 = y3 at *
  generalize adN n1 d1 (-n2) d2 = v1 at *
  generalize adD n1 d1 (-n2) d2 = v2 at *
  generalize adE n1 d1 (-n2) d2 = v3 at *
  generalize dvN n1 d1 n2 d2 = q1 at *
  generalize dvD n1 d1 n2 d2 = q2 at *
  generalize dvE n1 d1 n2 d2 = q3 at *
  generalize coV n1 d1 n2 d2 = u1 at *
  clear o1 o2 a5 c5
  have dAl := dAl; have dSt := dSt; have xC := ext_cell; have xF := ext_frozen; have xS := ext_set; have xN := ext_drewN; have xD := ext_drew; have xL := ext_lt; have xE := ext_ne; have xG := ext_nr; have xX := ext_ext; have xL1 := ext_lt1; have xL2 := ext_lt2; have xL3 := ext_lt3; have xM0 := ext_le0; have xM1 := ext_le1; have xM2 := ext_le2
  go_enter Try.func4, Try.ntmps4
  go_wp2_with fail
  refine (A0 _).mono ?_
  rintro e w1 ⟨rfl, hb⟩
  have HB1 : Below w.heap.size w w1 := by
    refine Below.trans ?_ (hb.mono ?_)
    · (repeat (first | exact b0 _ | (refine bal ?_ _) | (refine below_drewN ?_ _) | (refine Below.drew ?_)))
    · first | omega | (simp <;> omega)
  have zs1 : w.heap.size + 2 < w1.heap.size + 1 := by have := hb.size; (try simp at this); omega
  have ka : w1.cell? ⟨w.heap.size, 0, none⟩ = some (.int .i64 n1) := (hb.cell (by first | omega | (simp <;> omega))).trans (by (simp (maxDischargeDepth := 8) [go_sem, World.cell?_alloc_past, ltk2, ltk3, ltk4, ltk5, ltk6, ltk7, ltk8, ltk9, *]))
  have kb : w1.cell? ⟨w.heap.size, 1, none⟩ = some (.int .i64 d1) := (hb.cell (by first | omega | (simp <;> omega))).trans (by (simp (maxDischargeDepth := 8) [go_sem, World.cell?_alloc_past, ltk2, ltk3, ltk4, ltk5, ltk6, ltk7, ltk8, ltk9, *]))
  have kc : w1.cell? ⟨w.heap.size + 1, 0, none⟩ = some (.int .i64 n2) := (hb.cell (by first | omega | (simp <;> omega))).trans (by (simp (maxDischargeDepth := 8) [go_sem, World.cell?_alloc_past, ltk2, ltk3, ltk4, ltk5, ltk6, ltk7, ltk8, ltk9, *]))
  have kd : w1.cell? ⟨w.heap.size + 1, 1, none⟩ = some (.int .i64 d2) := (hb.cell (by first | omega | (simp <;> omega))).trans (by (simp (maxDischargeDepth := 8) [go_sem, World.cell?_alloc_past, ltk2, ltk3, ltk4, ltk5, ltk6, ltk7, ltk8, ltk9, *]))
  clear hb
  have zy1 : w.heap.size < w1.heap.size := by omega
  have zx1 : w.heap.size + 1 < w1.heap.size := by omega
  go_wp2_with fail
  refine (A1 _).mono ?_
  rintro e w2 ⟨rfl, hb⟩
  have HB2 : Below w.heap.size w w2 := by
    refine Below.trans ?_ (hb.mono ?_)
    · (repeat (first | exact HB1 | (refine bal ?_ _) | (refine below_drewN ?_ _) | (refine Below.drew ?_)))
    · first | omega | (simp <;> omega)
  have zs2 : w1.heap.size + 0 < w2.heap.size + 1 := by have := hb.size; (try simp at this); omega
  replace ka : w2.cell? ⟨w.heap.size, 0, none⟩ = some (.int .i64 n1) := (hb.cell (by first | omega | (simp <;> omega))).trans (by (simp (maxDischargeDepth := 8) [go_sem, World.cell?_alloc_past, ltk2, ltk3, ltk4, ltk5, ltk6, ltk7, ltk8, ltk9, *]))
  replace kb : w2.cell? ⟨w.heap.size, 1, none⟩ = some (.int .i64 d1) := (hb.cell (by first | omega | (simp <;> omega))).trans (by (simp (maxDischargeDepth := 8) [go_sem, World.cell?_alloc_past, ltk2, ltk3, ltk4, ltk5, ltk6, ltk7, ltk8, ltk9, *]))
  replace kc : w2.cell? ⟨w.heap.size + 1, 0, none⟩ = some (.int .i64 n2) := (hb.cell (by first | omega | (simp <;> omega))).trans (by (simp (maxDischargeDepth := 8) [go_sem, World.cell?_alloc_past, ltk2, ltk3, ltk4, ltk5, ltk6, ltk7, ltk8, ltk9, *]))
  replace kd : w2.cell? ⟨w.heap.size + 1, 1, none⟩ = some (.int .i64 d2) := (hb.cell (by first | omega | (simp <;> omega))).trans (by (simp (maxDischargeDepth := 8) [go_sem, World.cell?_alloc_past, ltk2, ltk3, ltk4, ltk5, ltk6, ltk7, ltk8, ltk9, *]))
  clear hb HB1
  have zy2 : w.heap.size < w2.heap.size := by omega
  have zx2 : w.heap.size + 1 < w2.heap.size := by omega
  go_wp2_with fail
  refine (A2 _).mono ?_
  rintro e w3 ⟨rfl, hb⟩
  have HB3 : Below w.heap.size w w3 := by
    refine Below.trans ?_ (hb.mono ?_)
    · (repeat (first | exact HB2 | (refine bal ?_ _) | (refine below_drewN ?_ _) | (refine Below.drew ?_)))
    · first | omega | (simp <;> omega)
  have zs3 : w2.heap.size + 1 < w3.heap.size + 1 := by have := hb.size; (try simp at this); omega
  replace ka : w3.cell? ⟨w.heap.size, 0, none⟩ = some (.int .i64 n1) := (hb.cell (by first | omega | (simp <;> omega))).trans (by (simp (maxDischargeDepth := 8) [go_sem, World.cell?_alloc_past, ltk2, ltk3, ltk4, ltk5, ltk6, ltk7, ltk8, ltk9, *]))
  replace kb : w3.cell? ⟨w.heap.size, 1, none⟩ = some (.int .i64 d1) := (hb.cell (by first | omega | (simp <;> omega))).trans (by (simp (maxDischargeDepth := 8) [go_sem, World.cell?_alloc_past, ltk2, ltk3, ltk4, ltk5, ltk6, ltk7, ltk8, ltk9, *]))
  replace kc : w3.cell? ⟨w.heap.size + 1, 0, none⟩ = some (.int .i64 n2) := (hb.cell (by first | omega | (simp <;> omega))).trans (by (simp (maxDischargeDepth := 8) [go_sem, World.cell?_alloc_past, ltk2, ltk3, ltk4, ltk5, ltk6, ltk7, ltk8, ltk9, *]))
  replace kd : w3.cell? ⟨w.heap.size + 1, 1, none⟩ = some (.int .i64 d2) := (hb.cell (by first | omega | (simp <;> omega))).trans (by (simp (maxDischargeDepth := 8) [go_sem, World.cell?_alloc_past, ltk2, ltk3, ltk4, ltk5, ltk6, ltk7, ltk8, ltk9, *]))
  have r2_0 : w3.cell? ⟨w2.heap.size, 0, none⟩ = some (.int .i64 x1) := (hb.cell (by first | omega | (simp <;> omega))).trans (by (simp (maxDischargeDepth := 8) [go_sem, World.cell?_alloc_past, ltk2, ltk3, ltk4, ltk5, ltk6, ltk7, ltk8, ltk9, *]))
  have r2_1 : w3.cell? ⟨w2.heap.size, 1, none⟩ = some (.int .i64 x2) := (hb.cell (by first | omega | (simp <;> omega))).trans (by (simp (maxDischargeDepth := 8) [go_sem, World.cell?_alloc_past, ltk2, ltk3, ltk4, ltk5, ltk6, ltk7, ltk8, ltk9, *]))
  clear hb HB2
  have zy3 : w.heap.size < w3.heap.size := by omega
  have zx3 : w.heap.size + 1 < w3.heap.size := by omega
  have zz_w2_3 : w2.heap.size < w3.heap.size := by omega
  go_wp2_with fail
  refine (A3 _).mono ?_
  rintro e w4 ⟨rfl, hb⟩
  have HB4 : Below w.heap.size w w4 := by
    refine Below.trans ?_ (hb.mono ?_)
    · (repeat (first | exact HB3 | (refine bal ?_ _) | (refine below_drewN ?_ _) | (refine Below.drew ?_)))
    · first | omega | (simp <;> omega)
  have zs4 : w3.heap.size + 1 < w4.heap.size + 1 := by have := hb.size; (try simp at this); omega
  replace ka : w4.cell? ⟨w.heap.size, 0, none⟩ = some (.int .i64 n1) := (hb.cell (by first | omega | (simp <;> omega))).trans (by (simp (maxDischargeDepth := 8) [go_sem, World.cell?_alloc_past, ltk2, ltk3, ltk4, ltk5, ltk6, ltk7, ltk8, ltk9, *]))
  replace kb : w4.cell? ⟨w.heap.size, 1, none⟩ = some (.int .i64 d1) := (hb.cell (by first | omega | (simp <;> omega))).trans (by (simp (maxDischargeDepth := 8) [go_sem, World.cell?_alloc_past, ltk2, ltk3, ltk4, ltk5, ltk6, ltk7, ltk8, ltk9, *]))
  replace kc : w4.cell? ⟨w.heap.size + 1, 0, none⟩ = some (.int .i64 n2) := (hb.cell (by first | omega | (simp <;> omega))).trans (by (simp (maxDischargeDepth := 8) [go_sem, World.cell?_alloc_past, ltk2, ltk3, ltk4, ltk5, ltk6, ltk7, ltk8, ltk9, *]))
  replace kd : w4.cell? ⟨w.heap.size + 1, 1, none⟩ = some (.int .i64 d2) := (hb.cell (by first | omega | (simp <;> omega))).trans (by (simp (maxDischargeDepth := 8) [go_sem, World.cell?_alloc_past, ltk2, ltk3, ltk4, ltk5, ltk6, ltk7, ltk8, ltk9, *]))
  replace r2_0 : w4.cell? ⟨w2.heap.size, 0, none⟩ = some (.int .i64 x1) := (hb.cell (by first | omega | (simp <;> omega))).trans (by (simp (maxDischargeDepth := 8) [go_sem, World.cell?_alloc_past, ltk2, ltk3, ltk4, ltk5, ltk6, ltk7, ltk8, ltk9, *]))
  replace r2_1 : w4.cell? ⟨w2.heap.size, 1, none⟩ = some (.int .i64 x2) := (hb.cell (by first | omega | (simp <;> omega))).trans (by (simp (maxDischargeDepth := 8) [go_sem, World.cell?_alloc_past, ltk2, ltk3, ltk4, ltk5, ltk6, ltk7, ltk8, ltk9, *]))
  have r3_0 : w4.cell? ⟨w3.heap.size, 0, none⟩ = some (.int .i64 x1) := (hb.cell (by first | omega | (simp <;> omega))).trans (by (simp (maxDischargeDepth := 8) [go_sem, World.cell?_alloc_past, ltk2, ltk3, ltk4, ltk5, ltk6, ltk7, ltk8, ltk9, *]))
  have r3_1 : w4.cell? ⟨w3.heap.size, 1, none⟩ = some (.int .i64 x2) := (hb.cell (by first | omega | (simp <;> omega))).trans (by (simp (maxDischargeDepth := 8) [go_sem, World.cell?_alloc_past, ltk2, ltk3, ltk4, ltk5, ltk6, ltk7, ltk8, ltk9, *]))
  clear hb HB3
  have zy4 : w.heap.size < w4.heap.size := by omega
  have zx4 : w.heap.size + 1 < w4.heap.size := by omega
  have zz_w2_4 : w2.heap.size < w4.heap.size := by omega
  have zz_w3_4 : w3.heap.size < w4.heap.size := by omega
  go_wp2_with fail
  refine (A4 _).mono ?_
  rintro e w5 ⟨rfl, hb⟩
  have HB5 : Below w.heap.size w w5 := by
    refine Below.trans ?_ (hb.mono ?_)
    · (repeat (first | exact HB4 | (refine bal ?_ _) | (refine below_drewN ?_ _) | (refine Below.drew ?_)))
    · first | omega | (simp <;> omega)
  have zs5 : w4.heap.size + 1 < w5.heap.size + 1 := by have := hb.size; (try simp at this); omega
  replace ka : w5.cell? ⟨w.heap.size, 0, none⟩ = some (.int .i64 n1) := (hb.cell (by first | omega | (simp <;> omega))).trans (by (simp (maxDischargeDepth := 8) [go_sem, World.cell?_alloc_past, ltk2, ltk3, ltk4, ltk5, ltk6, ltk7, ltk8, ltk9, *]))
  replace kb : w5.cell? ⟨w.heap.size, 1, none⟩ = some (.int .i64 d1) := (hb.cell (by first | omega | (simp <;> omega))).trans (by (simp (maxDischargeDepth := 8) [go_sem, World.cell?_alloc_past, ltk2, ltk3, ltk4, ltk5, ltk6, ltk7, ltk8, ltk9, *]))
  replace kc : w5.cell? ⟨w.heap.size + 1, 0, none⟩ = some (.int .i64 n2) := (hb.cell (by first | omega | (simp <;> omega))).trans (by (simp (maxDischargeDepth := 8) [go_sem, World.cell?_alloc_past, ltk2, ltk3, ltk4, ltk5, ltk6, ltk7, ltk8, ltk9, *]))
  replace kd : w5.cell? ⟨w.heap.size + 1, 1, none⟩ = some (.int .i64 d2) := (hb.cell (by first | omega | (simp <;> omega))).trans (by (simp (maxDischargeDepth := 8) [go_sem, World.cell?_alloc_past, ltk2, ltk3, ltk4, ltk5, ltk6, ltk7, ltk8, ltk9, *]))
  replace r2_0 : w5.cell? ⟨w2.heap.size, 0, none⟩ = some (.int .i64 x1) := (hb.cell (by first | omega | (simp <;> omega))).trans (by (simp (maxDischargeDepth := 8) [go_sem, World.cell?_alloc_past, ltk2, ltk3, ltk4, ltk5, ltk6, ltk7, ltk8, ltk9, *]))
  replace r2_1 : w5.cell? ⟨w2.heap.size, 1, none⟩ = some (.int .i64 x2) := (hb.cell (by first | omega | (simp <;> omega))).trans (by (simp (maxDischargeDepth := 8) [go_sem, World.cell?_alloc_past, ltk2, ltk3, ltk4, ltk5, ltk6, ltk7, ltk8, ltk9, *]))
  replace r3_0 : w5.cell? ⟨w3.heap.size, 0, none⟩ = some (.int .i64 x1) := (hb.cell (by first | omega | (simp <;> omega))).trans (by (simp (maxDischargeDepth := 8) [go_sem, World.cell?_alloc_past, ltk2, ltk3, ltk4, ltk5, ltk6, ltk7, ltk8, ltk9, *]))
  replace r3_1 : w5.cell? ⟨w3.heap.size, 1, none⟩ = some (.int .i64 x2) := (hb.cell (by first | omega | (simp <;> omega))).trans (by (simp (maxDischargeDepth := 8) [go_sem, World.cell?_alloc_past, ltk2, ltk3, ltk4, ltk5, ltk6, ltk7, ltk8, ltk9, *]))
  have r4_0 : w5.cell? ⟨w4.heap.size, 0, none⟩ = some (.int .i64 y1) := (hb.cell (by first | omega | (simp <;> omega))).trans (by (simp (maxDischargeDepth := 8) [go_sem, World.cell?_alloc_past, ltk2, ltk3, ltk4, ltk5, ltk6, ltk7, ltk8, ltk9, *]))
  have r4_1 : w5.cell? ⟨w4.heap.size, 1, none⟩ = some (.int .i64 y2) := (hb.cell (by first | omega | (simp <;> omega))).trans (by (simp (maxDischargeDepth := 8) [go_sem, World.cell?_alloc_past, ltk2, ltk3, ltk4, ltk5, ltk6, ltk7, ltk8, ltk9, *]))
  clear hb HB4
  have zy5 : w.heap.size < w5.heap.size := by omega
  have zx5 : w.heap.size + 1 < w5.heap.size := by omega
  have zz_w2_5 : w2.heap.size < w5.heap.size := by omega
  have zz_w3_5 : w3.heap.size < w5.heap.size := by omega
  have zz_w4_5 : w4.heap.size < w5.heap.size := by omega
  go_wp2_with fail
  refine (A5 _).mono ?_
  rintro e w6 ⟨rfl, hb⟩
  have HB6 : Below w.heap.size w w6 := by
    refine Below.trans ?_ (hb.mono ?_)
    · (repeat (first | exact HB5 | (refine bal ?_ _) | (refine below_drewN ?_ _) | (refine Below.drew ?_)))
    · first | omega | (simp <;> omega)
  have zs6 : w5.heap.size + 1 < w6.heap.size + 1 := by have := hb.size; (try simp at this); omega
  replace ka : w6.cell? ⟨w.heap.size, 0, none⟩ = some (.int .i64 n1) := (hb.cell (by first | omega | (simp <;> omega))).trans (by (simp (maxDischargeDepth := 8) [go_sem, World.cell?_alloc_past, ltk2, ltk3, ltk4, ltk5, ltk6, ltk7, ltk8, ltk9, *]))
  replace kb : w6.cell? ⟨w.heap.size, 1, none⟩ = some (.int .i64 d1) := (hb.cell (by first | omega | (simp <;> omega))).trans (by (simp (maxDischargeDepth := 8) [go_sem, World.cell?_alloc_past, ltk2, ltk3, ltk4, ltk5, ltk6, ltk7, ltk8, ltk9, *]))
  replace kc : w6.cell? ⟨w.heap.size + 1, 0, none⟩ = some (.int .i64 n2) := (hb.cell (by first | omega | (simp <;> omega))).trans (by (simp (maxDischargeDepth := 8) [go_sem, World.cell?_alloc_past, ltk2, ltk3, ltk4, ltk5, ltk6, ltk7, ltk8, ltk9, *]))
  replace kd : w6.cell? ⟨w.heap.size + 1, 1, none⟩ = some (.int .i64 d2) := (hb.cell (by first | omega | (simp <;> omega))).trans (by (simp (maxDischargeDepth := 8) [go_sem, World.cell?_alloc_past, ltk2, ltk3, ltk4, ltk5, ltk6, ltk7, ltk8, ltk9, *]))
  replace r2_0 : w6.cell? ⟨w2.heap.size, 0, none⟩ = some (.int .i64 x1) := (hb.cell (by first | omega | (simp <;> omega))).trans (by (simp (maxDischargeDepth := 8) [go_sem, World.cell?_alloc_past, ltk2, ltk3, ltk4, ltk5, ltk6, ltk7, ltk8, ltk9, *]))
  replace r2_1 : w6.cell? ⟨w2.heap.size, 1, none⟩ = some (.int .i64 x2) := (hb.cell (by first | omega | (simp <;> omega))).trans (by (simp (maxDischargeDepth := 8) [go_sem, World.cell?_alloc_past, ltk2, ltk3, ltk4, ltk5, ltk6, ltk7, ltk8, ltk9, *]))
  replace r3_0 : w6.cell? ⟨w3.heap.size, 0, none⟩ = some (.int .i64 x1) := (hb.cell (by first | omega | (simp <;> omega))).trans (by (simp (maxDischargeDepth := 8) [go_sem, World.cell?_alloc_past, ltk2, ltk3, ltk4, ltk5, ltk6, ltk7, ltk8, ltk9, *]))
  replace r3_1 : w6.cell? ⟨w3.heap.size, 1, none⟩ = some (.int .i64 x2) := (hb.cell (by first | omega | (simp <;> omega))).trans (by (simp (maxDischargeDepth := 8) [go_sem, World.cell?_alloc_past, ltk2, ltk3, ltk4, ltk5, ltk6, ltk7, ltk8, ltk9, *]))
  replace r4_0 : w6.cell? ⟨w4.heap.size, 0, none⟩ = some (.int .i64 y1) := (hb.cell (by first | omega | (simp <;> omega))).trans (by (simp (maxDischargeDepth := 8) [go_sem, World.cell?_alloc_past, ltk2, ltk3, ltk4, ltk5, ltk6, ltk7, ltk8, ltk9, *]))
  replace r4_1 : w6.cell? ⟨w4.heap.size, 1, none⟩ = some (.int .i64 y2) := (hb.cell (by first | omega | (simp <;> omega))).trans (by (simp (maxDischargeDepth := 8) [go_sem, World.cell?_alloc_past, ltk2, ltk3, ltk4, ltk5, ltk6, ltk7, ltk8, ltk9, *]))
  have r5_0 : w6.cell? ⟨w5.heap.size, 0, none⟩ = some (.int .i64 y1) := (hb.cell (by first | omega | (simp <;> omega))).trans (by (simp (maxDischargeDepth := 8) [go_sem, World.cell?_alloc_past, ltk2, ltk3, ltk4, ltk5, ltk6, ltk7, ltk8, ltk9, *]))
  have r5_1 : w6.cell? ⟨w5.heap.size, 1, none⟩ = some (.int .i64 y2) := (hb.cell (by first | omega | (simp <;> omega))).trans (by (simp (maxDischargeDepth := 8) [go_sem, World.cell?_alloc_past, ltk2, ltk3, ltk4, ltk5, ltk6, ltk7, ltk8, ltk9, *]))
  clear hb HB5
  have zy6 : w.heap.size < w6.heap.size := by omega
  have zx6 : w.heap.size + 1 < w6.heap.size := by omega
  have zz_w2_6 : w2.heap.size < w6.heap.size := by omega
  have zz_w3_6 : w3.heap.size < w6.heap.size := by omega
  have zz_w4_6 : w4.heap.size < w6.heap.size := by omega
  have zz_w5_6 : w5.heap.size < w6.heap.size := by omega
  go_wp2_with fail
  refine (A6 _).mono ?_
  rintro e w7 ⟨rfl, hb⟩
  have HB7 : Below w.heap.size w w7 := by
    refine Below.trans ?_ (hb.mono ?_)
    · (repeat (first | exact HB6 | (refine bal ?_ _) | (refine below_drewN ?_ _) | (refine Below.drew ?_)))
    · first | omega | (simp <;> omega)
  have zs7 : w6.heap.size + 1 < w7.heap.size + 1 := by have := hb.size; (try simp at this); omega
  replace ka : w7.cell? ⟨w.heap.size, 0, none⟩ = some (.int .i64 n1) := (hb.cell (by first | omega | (simp <;> omega))).trans (by (simp (maxDischargeDepth := 8) [go_sem, World.cell?_alloc_past, ltk2, ltk3, ltk4, ltk5, ltk6, ltk7, ltk8, ltk9, *]))
  replace kb : w7.cell? ⟨w.heap.size, 1, none⟩ = some (.int .i64 d1) := (hb.cell (by first | omega | (simp <;> omega))).trans (by (simp (maxDischargeDepth := 8) [go_sem, World.cell?_alloc_past, ltk2, ltk3, ltk4, ltk5, ltk6, ltk7, ltk8, ltk9, *]))
  replace kc : w7.cell? ⟨w.heap.size + 1, 0, none⟩ = some (.int .i64 n2) := (hb.cell (by first | omega | (simp <;> omega))).trans (by (simp (maxDischargeDepth := 8) [go_sem, World.cell?_alloc_past, ltk2, ltk3, ltk4, ltk5, ltk6, ltk7, ltk8, ltk9, *]))
  replace kd : w7.cell? ⟨w.heap.size + 1, 1, none⟩ = some (.int .i64 d2) := (hb.cell (by first | omega | (simp <;> omega))).trans (by (simp (maxDischargeDepth := 8) [go_sem, World.cell?_alloc_past, ltk2, ltk3, ltk4, ltk5, ltk6, ltk7, ltk8, ltk9, *]))
  replace r2_0 : w7.cell? ⟨w2.heap.size, 0, none⟩ = some (.int .i64 x1) := (hb.cell (by first | omega | (simp <;> omega))).trans (by (simp (maxDischargeDepth := 8) [go_sem, World.cell?_alloc_past, ltk2, ltk3, ltk4, ltk5, ltk6, ltk7, ltk8, ltk9, *]))
  replace r2_1 : w7.cell? ⟨w2.heap.size, 1, none⟩ = some (.int .i64 x2) := (hb.cell (by first | omega | (simp <;> omega))).trans (by (simp (maxDischargeDepth := 8) [go_sem, World.cell?_alloc_past, ltk2, ltk3, ltk4, ltk5, ltk6, ltk7, ltk8, ltk9, *]))
  replace r3_0 : w7.cell? ⟨w3.heap.size, 0, none⟩ = some (.int .i64 x1) := (hb.cell (by first | omega | (simp <;> omega))).trans (by (simp (maxDischargeDepth := 8) [go_sem, World.cell?_alloc_past, ltk2, ltk3, ltk4, ltk5, ltk6, ltk7, ltk8, ltk9, *]))
  replace r3_1 : w7.cell? ⟨w3.heap.size, 1, none⟩ = some (.int .i64 x2) := (hb.cell (by first | omega | (simp <;> omega))).trans (by (simp (maxDischargeDepth := 8) [go_sem, World.cell?_alloc_past, ltk2, ltk3, ltk4, ltk5, ltk6, ltk7, ltk8, ltk9, *]))
  replace r4_0 : w7.cell? ⟨w4.heap.size, 0, none⟩ = some (.int .i64 y1) := (hb.cell (by first | omega | (simp <;> omega))).trans (by (simp (maxDischargeDepth := 8) [go_sem, World.cell?_alloc_past, ltk2, ltk3, ltk4, ltk5, ltk6, ltk7, ltk8, ltk9, *]))
  replace r4_1 : w7.cell? ⟨w4.heap.size, 1, none⟩ = some (.int .i64 y2) := (hb.cell (by first | omega | (simp <;> omega))).trans (by (simp (maxDischargeDepth := 8) [go_sem, World.cell?_alloc_past, ltk2, ltk3, ltk4, ltk5, ltk6, ltk7, ltk8, ltk9, *]))
  replace r5_0 : w7.cell? ⟨w5.heap.size, 0, none⟩ = some (.int .i64 y1) := (hb.cell (by first | omega | (simp <;> omega))).trans (by (simp (maxDischargeDepth := 8) [go_sem, World.cell?_alloc_past, ltk2, ltk3, ltk4, ltk5, ltk6, ltk7, ltk8, ltk9, *]))
  replace r5_1 : w7.cell? ⟨w5.heap.size, 1, none⟩ = some (.int .i64 y2) := (hb.cell (by first | omega | (simp <;> omega))).trans (by (simp (maxDischargeDepth := 8) [go_sem, World.cell?_alloc_past, ltk2, ltk3, ltk4, ltk5, ltk6, ltk7, ltk8, ltk9, *]))
  have r6_0 : w7.cell? ⟨w6.heap.size, 0, none⟩ = some (.int .i64 v1) := (hb.cell (by first | omega | (simp <;> omega))).trans (by (simp (maxDischargeDepth := 8) [go_sem, World.cell?_alloc_past, ltk2, ltk3, ltk4, ltk5, ltk6, ltk7, ltk8, ltk9, *]))
  have r6_1 : w7.cell? ⟨w6.heap.size, 1, none⟩ = some (.int .i64 v2) := (hb.cell (by first | omega | (simp <;> omega))).trans (by (simp (maxDischargeDepth := 8) [go_sem, World.cell?_alloc_past, ltk2, ltk3, ltk4, ltk5, ltk6, ltk7, ltk8, ltk9, *]))
  clear hb HB6
  have zy7 : w.heap.size < w7.heap.size := by omega
  have zx7 : w.heap.size + 1 < w7.heap.size := by omega
  have zz_w2_7 : w2.heap.size < w7.heap.size := by omega
  have zz_w3_7 : w3.heap.size < w7.heap.size := by omega
  have zz_w4_7 : w4.heap.size < w7.heap.size := by omega
  have zz_w5_7 : w5.heap.size < w7.heap.size := by omega
  have zz_w6_7 : w6.heap.size < w7.heap.size := by omega
  clear A0 A1 A2 A3 A4 A5 A6
  by_cases hv : v3 = 0
  · subst hv
    obtain ⟨sg1, sg2⟩ := SG.out rfl
    have AD := A7.out rfl
    clear SG
    have hu2 : ¬ u1 = 0 := by simpa using hu
    rcases (show (0 < v1 ∧ 0 < u1) ∨ (v1 < 0 ∧ u1 < 0) by omega) with ⟨s1, s2⟩ | ⟨s1, s2⟩
    · have s3 : (v1 < 0) = False := by simp; omega
      have s4 : (u1 < 0) = False := by simp; omega
      clear sg1 sg2
      go_wp2_with fail
      refine (AD _).mono ?_
      rintro e w8 ⟨rfl, hb⟩
      have HB8 : Below w.heap.size w w8 := by
        refine Below.trans ?_ (hb.mono ?_)
        · (repeat (first | exact HB7 | (refine bal ?_ _) | (refine below_drewN ?_ _) | (refine Below.drew ?_)))
        · first | omega | (simp <;> omega)
      have zs8 : w7.heap.size + 0 < w8.heap.size + 1 := by have := hb.size; (try simp at this); omega
      replace ka : w8.cell? ⟨w.heap.size, 0, none⟩ = some (.int .i64 n1) := (hb.cell (by first | omega | (simp <;> omega))).trans (by (simp (maxDischargeDepth := 8) [go_sem, World.cell?_alloc_past, ltk2, ltk3, ltk4, ltk5, ltk6, ltk7, ltk8, ltk9, *]))
      replace kb : w8.cell? ⟨w.heap.size, 1, none⟩ = some (.int .i64 d1) := (hb.cell (by first | omega | (simp <;> omega))).trans (by (simp (maxDischargeDepth := 8) [go_sem, World.cell?_alloc_past, ltk2, ltk3, ltk4, ltk5, ltk6, ltk7, ltk8, ltk9, *]))
      replace kc : w8.cell? ⟨w.heap.size + 1, 0, none⟩ = some (.int .i64 n2) := (hb.cell (by first | omega | (simp <;> omega))).trans (by (simp (maxDischargeDepth := 8) [go_sem, World.cell?_alloc_past, ltk2, ltk3, ltk4, ltk5, ltk6, ltk7, ltk8, ltk9, *]))
      replace kd : w8.cell? ⟨w.heap.size + 1, 1, none⟩ = some (.int .i64 d2) := (hb.cell (by first | omega | (simp <;> omega))).trans (by (simp (maxDischargeDepth := 8) [go_sem, World.cell?_alloc_past, ltk2, ltk3, ltk4, ltk5, ltk6, ltk7, ltk8, ltk9, *]))
      replace r6_0 : w8.cell? ⟨w6.heap.size, 0, none⟩ = some (.int .i64 v1) := (hb.cell (by first | omega | (simp <;> omega))).trans (by (simp (maxDischargeDepth := 8) [go_sem, World.cell?_alloc_past, ltk2, ltk3, ltk4, ltk5, ltk6, ltk7, ltk8, ltk9, *]))
      replace r6_1 : w8.cell? ⟨w6.heap.size, 1, none⟩ = some (.int .i64 v2) := (hb.cell (by first | omega | (simp <;> omega))).trans (by (simp (maxDischargeDepth := 8) [go_sem, World.cell?_alloc_past, ltk2, ltk3, ltk4, ltk5, ltk6, ltk7, ltk8, ltk9, *]))
      clear hb HB7
      have zy8 : w.heap.size < w8.heap.size := by omega
      have zx8 : w.heap.size + 1 < w8.heap.size := by omega
      have zz_w6_8 : w6.heap.size < w8.heap.size := by omega
      clear AD
      by_cases hz : n2 = 0
      · have e18 : q3 = 18 := DV.out.1 hz
        subst e18; have hz2 : (n2 == 0) = true := by simp [hz]
        clear hz DV A7 A9
        go_wp2_with fail
        refine (A8 _).mono ?_
        rintro e w9 ⟨rfl, hb⟩
        have HB9 : Below w.heap.size w w9 := by
          refine Below.trans ?_ (hb.mono ?_)
          · (repeat (first | exact HB8 | (refine bal ?_ _) | (refine below_drewN ?_ _) | (refine Below.drew ?_)))
          · first | omega | (simp <;> omega)
        have zs9 : w8.heap.size + 0 < w9.heap.size + 1 := by have := hb.size; (try simp at this); omega
        replace ka : w9.cell? ⟨w.heap.size, 0, none⟩ = some (.int .i64 n1) := (hb.cell (by first | omega | (simp <;> omega))).trans (by (simp (maxDischargeDepth := 8) [go_sem, World.cell?_alloc_past, ltk2, ltk3, ltk4, ltk5, ltk6, ltk7, ltk8, ltk9, *]))
        replace kb : w9.cell? ⟨w.heap.size, 1, none⟩ = some (.int .i64 d1) := (hb.cell (by first | omega | (simp <;> omega))).trans (by (simp (maxDischargeDepth := 8) [go_sem, World.cell?_alloc_past, ltk2, ltk3, ltk4, ltk5, ltk6, ltk7, ltk8, ltk9, *]))
        replace kc : w9.cell? ⟨w.heap.size + 1, 0, none⟩ = some (.int .i64 n2) := (hb.cell (by first | omega | (simp <;> omega))).trans (by (simp (maxDischargeDepth := 8) [go_sem, World.cell?_alloc_past, ltk2, ltk3, ltk4, ltk5, ltk6, ltk7, ltk8, ltk9, *]))
        replace kd : w9.cell? ⟨w.heap.size + 1, 1, none⟩ = some (.int .i64 d2) := (hb.cell (by first | omega | (simp <;> omega))).trans (by (simp (maxDischargeDepth := 8) [go_sem, World.cell?_alloc_past, ltk2, ltk3, ltk4, ltk5, ltk6, ltk7, ltk8, ltk9, *]))
        replace r6_0 : w9.cell? ⟨w6.heap.size, 0, none⟩ = some (.int .i64 v1) := (hb.cell (by first | omega | (simp <;> omega))).trans (by (simp (maxDischargeDepth := 8) [go_sem, World.cell?_alloc_past, ltk2, ltk3, ltk4, ltk5, ltk6, ltk7, ltk8, ltk9, *]))
        replace r6_1 : w9.cell? ⟨w6.heap.size, 1, none⟩ = some (.int .i64 v2) := (hb.cell (by first | omega | (simp <;> omega))).trans (by (simp (maxDischargeDepth := 8) [go_sem, World.cell?_alloc_past, ltk2, ltk3, ltk4, ltk5, ltk6, ltk7, ltk8, ltk9, *]))
        clear hb HB8
        have zy9 : w.heap.size < w9.heap.size := by omega
        have zx9 : w.heap.size + 1 < w9.heap.size := by omega
        have zz_w6_9 : w6.heap.size < w9.heap.size := by omega
        go_wp2_with fail
        refine (AA _).mono ?_
        rintro e w10 ⟨rfl, hb⟩
        have HB10 : Below w.heap.size w w10 := by
          refine Below.trans ?_ (hb.mono ?_)
          · (repeat (first | exact HB9 | (refine bal ?_ _) | (refine below_drewN ?_ _) | (refine Below.drew ?_)))
          · first | omega | (simp <;> omega)
        have zs10 : w9.heap.size + 1 < w10.heap.size + 1 := by have := hb.size; (try simp at this); omega
        replace ka : w10.cell? ⟨w.heap.size, 0, none⟩ = some (.int .i64 n1) := (hb.cell (by first | omega | (simp <;> omega))).trans (by (simp (maxDischargeDepth := 8) [go_sem, World.cell?_alloc_past, ltk2, ltk3, ltk4, ltk5, ltk6, ltk7, ltk8, ltk9, *]))
        replace kb : w10.cell? ⟨w.heap.size, 1, none⟩ = some (.int .i64 d1) := (hb.cell (by first | omega | (simp <;> omega))).trans (by (simp (maxDischargeDepth := 8) [go_sem, World.cell?_alloc_past, ltk2, ltk3, ltk4, ltk5, ltk6, ltk7, ltk8, ltk9, *]))
        replace kc : w10.cell? ⟨w.heap.size + 1, 0, none⟩ = some (.int .i64 n2) := (hb.cell (by first | omega | (simp <;> omega))).trans (by (simp (maxDischargeDepth := 8) [go_sem, World.cell?_alloc_past, ltk2, ltk3, ltk4, ltk5, ltk6, ltk7, ltk8, ltk9, *]))
        replace kd : w10.cell? ⟨w.heap.size + 1, 1, none⟩ = some (.int .i64 d2) := (hb.cell (by first | omega | (simp <;> omega))).trans (by (simp (maxDischargeDepth := 8) [go_sem, World.cell?_alloc_past, ltk2, ltk3, ltk4, ltk5, ltk6, ltk7, ltk8, ltk9, *]))
        replace r6_0 : w10.cell? ⟨w6.heap.size, 0, none⟩ = some (.int .i64 v1) := (hb.cell (by first | omega | (simp <;> omega))).trans (by (simp (maxDischargeDepth := 8) [go_sem, World.cell?_alloc_past, ltk2, ltk3, ltk4, ltk5, ltk6, ltk7, ltk8, ltk9, *]))
        replace r6_1 : w10.cell? ⟨w6.heap.size, 1, none⟩ = some (.int .i64 v2) := (hb.cell (by first | omega | (simp <;> omega))).trans (by (simp (maxDischargeDepth := 8) [go_sem, World.cell?_alloc_past, ltk2, ltk3, ltk4, ltk5, ltk6, ltk7, ltk8, ltk9, *]))
        have r9_0 : w10.cell? ⟨w9.heap.size, 0, none⟩ = some (.int .i64 q1) := (hb.cell (by first | omega | (simp <;> omega))).trans (by (simp (maxDischargeDepth := 8) [go_sem, World.cell?_alloc_past, ltk2, ltk3, ltk4, ltk5, ltk6, ltk7, ltk8, ltk9, *]))
        have r9_1 : w10.cell? ⟨w9.heap.size, 1, none⟩ = some (.int .i64 q2) := (hb.cell (by first | omega | (simp <;> omega))).trans (by (simp (maxDischargeDepth := 8) [go_sem, World.cell?_alloc_past, ltk2, ltk3, ltk4, ltk5, ltk6, ltk7, ltk8, ltk9, *]))
        clear hb HB9
        have zy10 : w.heap.size < w10.heap.size := by omega
        have zx10 : w.heap.size + 1 < w10.heap.size := by omega
        have zz_w6_10 : w6.heap.size < w10.heap.size := by omega
        have zz_w9_10 : w9.heap.size < w10.heap.size := by omega
        go_wp2_with fail
        go_ret
        exact ⟨rfl, by (repeat (first | with_reducible exact HB10 | (with_reducible refine bext ?_ _ _) | (with_reducible refine below_drewN ?_ _) | (with_reducible refine Below.drew ?_) | (with_reducible refine bal ?_ _) | (with_reducible refine bset ?_ (by first | omega | (simp <;> omega)) _)))⟩
      · rcases DV.out.2 hz with e0 | e16
        · subst e0; have hz2 : (n2 == 0) = false := by simp [hz]
          have AB := A9.out hz rfl
          clear hz DV A7 A9
          go_wp2_with fail
          refine (A8 _).mono ?_
          rintro e w9 ⟨rfl, hb⟩
          have HB9 : Below w.heap.size w w9 := by
            refine Below.trans ?_ (hb.mono ?_)
            · (repeat (first | exact HB8 | (refine bal ?_ _) | (refine below_drewN ?_ _) | (refine Below.drew ?_)))
            · first | omega | (simp <;> omega)
          have zs9 : w8.heap.size + 0 < w9.heap.size + 1 := by have := hb.size; (try simp at this); omega
          replace ka : w9.cell? ⟨w.heap.size, 0, none⟩ = some (.int .i64 n1) := (hb.cell (by first | omega | (simp <;> omega))).trans (by (simp (maxDischargeDepth := 8) [go_sem, World.cell?_alloc_past, ltk2, ltk3, ltk4, ltk5, ltk6, ltk7, ltk8, ltk9, *]))
          replace kb : w9.cell? ⟨w.heap.size, 1, none⟩ = some (.int .i64 d1) := (hb.cell (by first | omega | (simp <;> omega))).trans (by (simp (maxDischargeDepth := 8) [go_sem, World.cell?_alloc_past, ltk2, ltk3, ltk4, ltk5, ltk6, ltk7, ltk8, ltk9, *]))
          replace kc : w9.cell? ⟨w.heap.size + 1, 0, none⟩ = some (.int .i64 n2) := (hb.cell (by first | omega | (simp <;> omega))).trans (by (simp (maxDischargeDepth := 8) [go_sem, World.cell?_alloc_past, ltk2, ltk3, ltk4, ltk5, ltk6, ltk7, ltk8, ltk9, *]))
          replace kd : w9.cell? ⟨w.heap.size + 1, 1, none⟩ = some (.int .i64 d2) := (hb.cell (by first | omega | (simp <;> omega))).trans (by (simp (maxDischargeDepth := 8) [go_sem, World.cell?_alloc_past, ltk2, ltk3, ltk4, ltk5, ltk6, ltk7, ltk8, ltk9, *]))
          replace r6_0 : w9.cell? ⟨w6.heap.size, 0, none⟩ = some (.int .i64 v1) := (hb.cell (by first | omega | (simp <;> omega))).trans (by (simp (maxDischargeDepth := 8) [go_sem, World.cell?_alloc_past, ltk2, ltk3, ltk4, ltk5, ltk6, ltk7, ltk8, ltk9, *]))
          replace r6_1 : w9.cell? ⟨w6.heap.size, 1, none⟩ = some (.int .i64 v2) := (hb.cell (by first | omega | (simp <;> omega))).trans (by (simp (maxDischargeDepth := 8) [go_sem, World.cell?_alloc_past, ltk2, ltk3, ltk4, ltk5, ltk6, ltk7, ltk8, ltk9, *]))
          clear hb HB8
          have zy9 : w.heap.size < w9.heap.size := by omega
          have zx9 : w.heap.size + 1 < w9.heap.size := by omega
          have zz_w6_9 : w6.heap.size < w9.heap.size := by omega
          go_wp2_with fail
          refine (AB _).mono ?_
          rintro e w10 ⟨rfl, hb⟩
          have HB10 : Below w.heap.size w w10 := by
            refine Below.trans ?_ (hb.mono ?_)
            · (repeat (first | exact HB9 | (refine bal ?_ _) | (refine below_drewN ?_ _) | (refine Below.drew ?_)))
            · first | omega | (simp <;> omega)
          have zs10 : w9.heap.size + 1 < w10.heap.size + 1 := by have := hb.size; (try simp at this); omega
          replace ka : w10.cell? ⟨w.heap.size, 0, none⟩ = some (.int .i64 n1) := (hb.cell (by first | omega | (simp <;> omega))).trans (by (simp (maxDischargeDepth := 8) [go_sem, World.cell?_alloc_past, ltk2, ltk3, ltk4, ltk5, ltk6, ltk7, ltk8, ltk9, *]))
          replace kb : w10.cell? ⟨w.heap.size, 1, none⟩ = some (.int .i64 d1) := (hb.cell (by first | omega | (simp <;> omega))).trans (by (simp (maxDischargeDepth := 8) [go_sem, World.cell?_alloc_past, ltk2, ltk3, ltk4, ltk5, ltk6, ltk7, ltk8, ltk9, *]))
          replace kc : w10.cell? ⟨w.heap.size + 1, 0, none⟩ = some (.int .i64 n2) := (hb.cell (by first | omega | (simp <;> omega))).trans (by (simp (maxDischargeDepth := 8) [go_sem, World.cell?_alloc_past, ltk2, ltk3, ltk4, ltk5, ltk6, ltk7, ltk8, ltk9, *]))
          replace kd : w10.cell? ⟨w.heap.size + 1, 1, none⟩ = some (.int .i64 d2) := (hb.cell (by first | omega | (simp <;> omega))).trans (by (simp (maxDischargeDepth := 8) [go_sem, World.cell?_alloc_past, ltk2, ltk3, ltk4, ltk5, ltk6, ltk7, ltk8, ltk9, *]))
          replace r6_0 : w10.cell? ⟨w6.heap.size, 0, none⟩ = some (.int .i64 v1) := (hb.cell (by first | omega | (simp <;> omega))).trans (by (simp (maxDischargeDepth := 8) [go_sem, World.cell?_alloc_past, ltk2, ltk3, ltk4, ltk5, ltk6, ltk7, ltk8, ltk9, *]))
          replace r6_1 : w10.cell? ⟨w6.heap.size, 1, none⟩ = some (.int .i64 v2) := (hb.cell (by first | omega | (simp <;> omega))).trans (by (simp (maxDischargeDepth := 8) [go_sem, World.cell?_alloc_past, ltk2, ltk3, ltk4, ltk5, ltk6, ltk7, ltk8, ltk9, *]))
          have r9_0 : w10.cell? ⟨w9.heap.size, 0, none⟩ = some (.int .i64 q1) := (hb.cell (by first | omega | (simp <;> omega))).trans (by (simp (maxDischargeDepth := 8) [go_sem, World.cell?_alloc_past, ltk2, ltk3, ltk4, ltk5, ltk6, ltk7, ltk8, ltk9, *]))
          have r9_1 : w10.cell? ⟨w9.heap.size, 1, none⟩ = some (.int .i64 q2) := (hb.cell (by first | omega | (simp <;> omega))).trans (by (simp (maxDischargeDepth := 8) [go_sem, World.cell?_alloc_past, ltk2, ltk3, ltk4, ltk5, ltk6, ltk7, ltk8, ltk9, *]))
          clear hb HB9
          have zy10 : w.heap.size < w10.heap.size := by omega
          have zx10 : w.heap.size + 1 < w10.heap.size := by omega
          have zz_w6_10 : w6.heap.size < w10.heap.size := by omega
          have zz_w9_10 : w9.heap.size < w10.heap.size := by omega
          go_wp2_with fail
          refine (AA _).mono ?_
          rintro e w11 ⟨rfl, hb⟩
          have HB11 : Below w.heap.size w w11 := by
            refine Below.trans ?_ (hb.mono ?_)
            · (repeat (first | exact HB10 | (refine bal ?_ _) | (refine below_drewN ?_ _) | (refine Below.drew ?_)))
            · first | omega | (simp <;> omega)
          have zs11 : w10.heap.size + 0 < w11.heap.size + 1 := by have := hb.size; (try simp at this); omega
          replace ka : w11.cell? ⟨w.heap.size, 0, none⟩ = some (.int .i64 n1) := (hb.cell (by first | omega | (simp <;> omega))).trans (by (simp (maxDischargeDepth := 8) [go_sem, World.cell?_alloc_past, ltk2, ltk3, ltk4, ltk5, ltk6, ltk7, ltk8, ltk9, *]))
          replace kb : w11.cell? ⟨w.heap.size, 1, none⟩ = some (.int .i64 d1) := (hb.cell (by first | omega | (simp <;> omega))).trans (by (simp (maxDischargeDepth := 8) [go_sem, World.cell?_alloc_past, ltk2, ltk3, ltk4, ltk5, ltk6, ltk7, ltk8, ltk9, *]))
          replace kc : w11.cell? ⟨w.heap.size + 1, 0, none⟩ = some (.int .i64 n2) := (hb.cell (by first | omega | (simp <;> omega))).trans (by (simp (maxDischargeDepth := 8) [go_sem, World.cell?_alloc_past, ltk2, ltk3, ltk4, ltk5, ltk6, ltk7, ltk8, ltk9, *]))
          replace kd : w11.cell? ⟨w.heap.size + 1, 1, none⟩ = some (.int .i64 d2) := (hb.cell (by first | omega | (simp <;> omega))).trans (by (simp (maxDischargeDepth := 8) [go_sem, World.cell?_alloc_past, ltk2, ltk3, ltk4, ltk5, ltk6, ltk7, ltk8, ltk9, *]))
          replace r6_0 : w11.cell? ⟨w6.heap.size, 0, none⟩ = some (.int .i64 v1) := (hb.cell (by first | omega | (simp <;> omega))).trans (by (simp (maxDischargeDepth := 8) [go_sem, World.cell?_alloc_past, ltk2, ltk3, ltk4, ltk5, ltk6, ltk7, ltk8, ltk9, *]))
          replace r6_1 : w11.cell? ⟨w6.heap.size, 1, none⟩ = some (.int .i64 v2) := (hb.cell (by first | omega | (simp <;> omega))).trans (by (simp (maxDischargeDepth := 8) [go_sem, World.cell?_alloc_past, ltk2, ltk3, ltk4, ltk5, ltk6, ltk7, ltk8, ltk9, *]))
          replace r9_0 : w11.cell? ⟨w9.heap.size, 0, none⟩ = some (.int .i64 q1) := (hb.cell (by first | omega | (simp <;> omega))).trans (by (simp (maxDischargeDepth := 8) [go_sem, World.cell?_alloc_past, ltk2, ltk3, ltk4, ltk5, ltk6, ltk7, ltk8, ltk9, *]))
          replace r9_1 : w11.cell? ⟨w9.heap.size, 1, none⟩ = some (.int .i64 q2) := (hb.cell (by first | omega | (simp <;> omega))).trans (by (simp (maxDischargeDepth := 8) [go_sem, World.cell?_alloc_past, ltk2, ltk3, ltk4, ltk5, ltk6, ltk7, ltk8, ltk9, *]))
          clear hb HB10
          have zy11 : w.heap.size < w11.heap.size := by omega
          have zx11 : w.heap.size + 1 < w11.heap.size := by omega
          have zz_w6_11 : w6.heap.size < w11.heap.size := by omega
          have zz_w9_11 : w9.heap.size < w11.heap.size := by omega
          go_wp2_with fail
          go_ret
          exact ⟨rfl, by (repeat (first | with_reducible exact HB11 | (with_reducible refine bext ?_ _ _) | (with_reducible refine below_drewN ?_ _) | (with_reducible refine Below.drew ?_) | (with_reducible refine bal ?_ _) | (with_reducible refine bset ?_ (by first | omega | (simp <;> omega)) _)))⟩
        · subst e16; have hz2 : (n2 == 0) = false := by simp [hz]
          clear hz DV A7 A9
          go_wp2_with fail
          refine (A8 _).mono ?_
          rintro e w9 ⟨rfl, hb⟩
          have HB9 : Below w.heap.size w w9 := by
            refine Below.trans ?_ (hb.mono ?_)
            · (repeat (first | exact HB8 | (refine bal ?_ _) | (refine below_drewN ?_ _) | (refine Below.drew ?_)))
            · first | omega | (simp <;> omega)
          have zs9 : w8.heap.size + 0 < w9.heap.size + 1 := by have := hb.size; (try simp at this); omega
          replace ka : w9.cell? ⟨w.heap.size, 0, none⟩ = some (.int .i64 n1) := (hb.cell (by first | omega | (simp <;> omega))).trans (by (simp (maxDischargeDepth := 8) [go_sem, World.cell?_alloc_past, ltk2, ltk3, ltk4, ltk5, ltk6, ltk7, ltk8, ltk9, *]))
          replace kb : w9.cell? ⟨w.heap.size, 1, none⟩ = some (.int .i64 d1) := (hb.cell (by first | omega | (simp <;> omega))).trans (by (simp (maxDischargeDepth := 8) [go_sem, World.cell?_alloc_past, ltk2, ltk3, ltk4, ltk5, ltk6, ltk7, ltk8, ltk9, *]))
          replace kc : w9.cell? ⟨w.heap.size + 1, 0, none⟩ = some (.int .i64 n2) := (hb.cell (by first | omega | (simp <;> omega))).trans (by (simp (maxDischargeDepth := 8) [go_sem, World.cell?_alloc_past, ltk2, ltk3, ltk4, ltk5, ltk6, ltk7, ltk8, ltk9, *]))
          replace kd : w9.cell? ⟨w.heap.size + 1, 1, none⟩ = some (.int .i64 d2) := (hb.cell (by first | omega | (simp <;> omega))).trans (by (simp (maxDischargeDepth := 8) [go_sem, World.cell?_alloc_past, ltk2, ltk3, ltk4, ltk5, ltk6, ltk7, ltk8, ltk9, *]))
          replace r6_0 : w9.cell? ⟨w6.heap.size, 0, none⟩ = some (.int .i64 v1) := (hb.cell (by first | omega | (simp <;> omega))).trans (by (simp (maxDischargeDepth := 8) [go_sem, World.cell?_alloc_past, ltk2, ltk3, ltk4, ltk5, ltk6, ltk7, ltk8, ltk9, *]))
          replace r6_1 : w9.cell? ⟨w6.heap.size, 1, none⟩ = some (.int .i64 v2) := (hb.cell (by first | omega | (simp <;> omega))).trans (by (simp (maxDischargeDepth := 8) [go_sem, World.cell?_alloc_past, ltk2, ltk3, ltk4, ltk5, ltk6, ltk7, ltk8, ltk9, *]))
          clear hb HB8
          have zy9 : w.heap.size < w9.heap.size := by omega
          have zx9 : w.heap.size + 1 < w9.heap.size := by omega
          have zz_w6_9 : w6.heap.size < w9.heap.size := by omega
          go_wp2_with fail
          refine (AA _).mono ?_
          rintro e w10 ⟨rfl, hb⟩
          have HB10 : Below w.heap.size w w10 := by
            refine Below.trans ?_ (hb.mono ?_)
            · (repeat (first | exact HB9 | (refine bal ?_ _) | (refine below_drewN ?_ _) | (refine Below.drew ?_)))
            · first | omega | (simp <;> omega)
          have zs10 : w9.heap.size + 1 < w10.heap.size + 1 := by have := hb.size; (try simp at this); omega
          replace ka : w10.cell? ⟨w.heap.size, 0, none⟩ = some (.int .i64 n1) := (hb.cell (by first | omega | (simp <;> omega))).trans (by (simp (maxDischargeDepth := 8) [go_sem, World.cell?_alloc_past, ltk2, ltk3, ltk4, ltk5, ltk6, ltk7, ltk8, ltk9, *]))
          replace kb : w10.cell? ⟨w.heap.size, 1, none⟩ = some (.int .i64 d1) := (hb.cell (by first | omega | (simp <;> omega))).trans (by (simp (maxDischargeDepth := 8) [go_sem, World.cell?_alloc_past, ltk2, ltk3, ltk4, ltk5, ltk6, ltk7, ltk8, ltk9, *]))
          replace kc : w10.cell? ⟨w.heap.size + 1, 0, none⟩ = some (.int .i64 n2) := (hb.cell (by first | omega | (simp <;> omega))).trans (by (simp (maxDischargeDepth := 8) [go_sem, World.cell?_alloc_past, ltk2, ltk3, ltk4, ltk5, ltk6, ltk7, ltk8, ltk9, *]))
          replace kd : w10.cell? ⟨w.heap.size + 1, 1, none⟩ = some (.int .i64 d2) := (hb.cell (by first | omega | (simp <;> omega))).trans (by (simp (maxDischargeDepth := 8) [go_sem, World.cell?_alloc_past, ltk2, ltk3, ltk4, ltk5, ltk6, ltk7, ltk8, ltk9, *]))
          replace r6_0 : w10.cell? ⟨w6.heap.size, 0, none⟩ = some (.int .i64 v1) := (hb.cell (by first | omega | (simp <;> omega))).trans (by (simp (maxDischargeDepth := 8) [go_sem, World.cell?_alloc_past, ltk2, ltk3, ltk4, ltk5, ltk6, ltk7, ltk8, ltk9, *]))
          replace r6_1 : w10.cell? ⟨w6.heap.size, 1, none⟩ = some (.int .i64 v2) := (hb.cell (by first | omega | (simp <;> omega))).trans (by (simp (maxDischargeDepth := 8) [go_sem, World.cell?_alloc_past, ltk2, ltk3, ltk4, ltk5, ltk6, ltk7, ltk8, ltk9, *]))
          have r9_0 : w10.cell? ⟨w9.heap.size, 0, none⟩ = some (.int .i64 q1) := (hb.cell (by first | omega | (simp <;> omega))).trans (by (simp (maxDischargeDepth := 8) [go_sem, World.cell?_alloc_past, ltk2, ltk3, ltk4, ltk5, ltk6, ltk7, ltk8, ltk9, *]))
          have r9_1 : w10.cell? ⟨w9.heap.size, 1, none⟩ = some (.int .i64 q2) := (hb.cell (by first | omega | (simp <;> omega))).trans (by (simp (maxDischargeDepth := 8) [go_sem, World.cell?_alloc_past, ltk2, ltk3, ltk4, ltk5, ltk6, ltk7, ltk8, ltk9, *]))
          clear hb HB9
          have zy10 : w.heap.size < w10.heap.size := by omega
          have zx10 : w.heap.size + 1 < w10.heap.size := by omega
          have zz_w6_10 : w6.heap.size < w10.heap.size := by omega
          have zz_w9_10 : w9.heap.size < w10.heap.size := by omega
          go_wp2_with fail
          go_ret
          exact ⟨rfl, by (repeat (first | with_reducible exact HB10 | (with_reducible refine bext ?_ _ _) | (with_reducible refine below_drewN ?_ _) | (with_reducible refine Below.drew ?_) | (with_reducible refine bal ?_ _) | (with_reducible refine bset ?_ (by first | omega | (simp <;> omega)) _)))⟩
    · have s3 : (0 < v1) = False := by simp; omega
      have s4 : (0 < u1) = False := by simp; omega
      clear sg1 sg2
      go_wp2_with fail
      refine (AD _).mono ?_
      rintro e w8 ⟨rfl, hb⟩
      have HB8 : Below w.heap.size w w8 := by
        refine Below.trans ?_ (hb.mono ?_)
        · (repeat (first | exact HB7 | (refine bal ?_ _) | (refine below_drewN ?_ _) | (refine Below.drew ?_)))
        · first | omega | (simp <;> omega)
      have zs8 : w7.heap.size + 0 < w8.heap.size + 1 := by have := hb.size; (try simp at this); omega
      replace ka : w8.cell? ⟨w.heap.size, 0, none⟩ = some (.int .i64 n1) := (hb.cell (by first | omega | (simp <;> omega))).trans (by (simp (maxDischargeDepth := 8) [go_sem, World.cell?_alloc_past, ltk2, ltk3, ltk4, ltk5, ltk6, ltk7, ltk8, ltk9, *]))
      replace kb : w8.cell? ⟨w.heap.size, 1, none⟩ = some (.int .i64 d1) := (hb.cell (by first | omega | (simp <;> omega))).trans (by (simp (maxDischargeDepth := 8) [go_sem, World.cell?_alloc_past, ltk2, ltk3, ltk4, ltk5, ltk6, ltk7, ltk8, ltk9, *]))
      replace kc : w8.cell? ⟨w.heap.size + 1, 0, none⟩ = some (.int .i64 n2) := (hb.cell (by first | omega | (simp <;> omega))).trans (by (simp (maxDischargeDepth := 8) [go_sem, World.cell?_alloc_past, ltk2, ltk3, ltk4, ltk5, ltk6, ltk7, ltk8, ltk9, *]))
      replace kd : w8.cell? ⟨w.heap.size + 1, 1, none⟩ = some (.int .i64 d2) := (hb.cell (by first | omega | (simp <;> omega))).trans (by (simp (maxDischargeDepth := 8) [go_sem, World.cell?_alloc_past, ltk2, ltk3, ltk4, ltk5, ltk6, ltk7, ltk8, ltk9, *]))
      replace r6_0 : w8.cell? ⟨w6.heap.size, 0, none⟩ = some (.int .i64 v1) := (hb.cell (by first | omega | (simp <;> omega))).trans (by (simp (maxDischargeDepth := 8) [go_sem, World.cell?_alloc_past, ltk2, ltk3, ltk4, ltk5, ltk6, ltk7, ltk8, ltk9, *]))
      replace r6_1 : w8.cell? ⟨w6.heap.size, 1, none⟩ = some (.int .i64 v2) := (hb.cell (by first | omega | (simp <;> omega))).trans (by (simp (maxDischargeDepth := 8) [go_sem, World.cell?_alloc_past, ltk2, ltk3, ltk4, ltk5, ltk6, ltk7, ltk8, ltk9, *]))
      clear hb HB7
      have zy8 : w.heap.size < w8.heap.size := by omega
      have zx8 : w.heap.size + 1 < w8.heap.size := by omega
      have zz_w6_8 : w6.heap.size < w8.heap.size := by omega
      clear AD
      by_cases hz : n2 = 0
      · have e18 : q3 = 18 := DV.out.1 hz
        subst e18; have hz2 : (n2 == 0) = true := by simp [hz]
        clear hz DV A7 A9
        go_wp2_with fail
        refine (A8 _).mono ?_
        rintro e w9 ⟨rfl, hb⟩
        have HB9 : Below w.heap.size w w9 := by
          refine Below.trans ?_ (hb.mono ?_)
          · (repeat (first | exact HB8 | (refine bal ?_ _) | (refine below_drewN ?_ _) | (refine Below.drew ?_)))
          · first | omega | (simp <;> omega)
        have zs9 : w8.heap.size + 0 < w9.heap.size + 1 := by have := hb.size; (try simp at this); omega
        replace ka : w9.cell? ⟨w.heap.size, 0, none⟩ = some (.int .i64 n1) := (hb.cell (by first | omega | (simp <;> omega))).trans (by (simp (maxDischargeDepth := 8) [go_sem, World.cell?_alloc_past, ltk2, ltk3, ltk4, ltk5, ltk6, ltk7, ltk8, ltk9, *]))
        replace kb : w9.cell? ⟨w.heap.size, 1, none⟩ = some (.int .i64 d1) := (hb.cell (by first | omega | (simp <;> omega))).trans (by (simp (maxDischargeDepth := 8) [go_sem, World.cell?_alloc_past, ltk2, ltk3, ltk4, ltk5, ltk6, ltk7, ltk8, ltk9, *]))
        replace kc : w9.cell? ⟨w.heap.size + 1, 0, none⟩ = some (.int .i64 n2) := (hb.cell (by first | omega | (simp <;> omega))).trans (by (simp (maxDischargeDepth := 8) [go_sem, World.cell?_alloc_past, ltk2, ltk3, ltk4, ltk5, ltk6, ltk7, ltk8, ltk9, *]))
        replace kd : w9.cell? ⟨w.heap.size + 1, 1, none⟩ = some (.int .i64 d2) := (hb.cell (by first | omega | (simp <;> omega))).trans (by (simp (maxDischargeDepth := 8) [go_sem, World.cell?_alloc_past, ltk2, ltk3, ltk4, ltk5, ltk6, ltk7, ltk8, ltk9, *]))
        replace r6_0 : w9.cell? ⟨w6.heap.size, 0, none⟩ = some (.int .i64 v1) := (hb.cell (by first | omega | (simp <;> omega))).trans (by (simp (maxDischargeDepth := 8) [go_sem, World.cell?_alloc_past, ltk2, ltk3, ltk4, ltk5, ltk6, ltk7, ltk8, ltk9, *]))
        replace r6_1 : w9.cell? ⟨w6.heap.size, 1, none⟩ = some (.int .i64 v2) := (hb.cell (by first | omega | (simp <;> omega))).trans (by (simp (maxDischargeDepth := 8) [go_sem, World.cell?_alloc_past, ltk2, ltk3, ltk4, ltk5, ltk6, ltk7, ltk8, ltk9, *]))
        clear hb HB8
        have zy9 : w.heap.size < w9.heap.size := by omega
        have zx9 : w.heap.size + 1 < w9.heap.size := by omega
        have zz_w6_9 : w6.heap.size < w9.heap.size := by omega
        go_wp2_with fail
        refine (AA _).mono ?_
        rintro e w10 ⟨rfl, hb⟩
        have HB10 : Below w.heap.size w w10 := by
          refine Below.trans ?_ (hb.mono ?_)
          · (repeat (first | exact HB9 | (refine bal ?_ _) | (refine below_drewN ?_ _) | (refine Below.drew ?_)))
          · first | omega | (simp <;> omega)
        have zs10 : w9.heap.size + 1 < w10.heap.size + 1 := by have := hb.size; (try simp at this); omega
        replace ka : w10.cell? ⟨w.heap.size, 0, none⟩ = some (.int .i64 n1) := (hb.cell (by first | omega | (simp <;> omega))).trans (by (simp (maxDischargeDepth := 8) [go_sem, World.cell?_alloc_past, ltk2, ltk3, ltk4, ltk5, ltk6, ltk7, ltk8, ltk9, *]))
        replace kb : w10.cell? ⟨w.heap.size, 1, none⟩ = some (.int .i64 d1) := (hb.cell (by first | omega | (simp <;> omega))).trans (by (simp (maxDischargeDepth := 8) [go_sem, World.cell?_alloc_past, ltk2, ltk3, ltk4, ltk5, ltk6, ltk7, ltk8, ltk9, *]))
        replace kc : w10.cell? ⟨w.heap.size + 1, 0, none⟩ = some (.int .i64 n2) := (hb.cell (by first | omega | (simp <;> omega))).trans (by (simp (maxDischargeDepth := 8) [go_sem, World.cell?_alloc_past, ltk2, ltk3, ltk4, ltk5, ltk6, ltk7, ltk8, ltk9, *]))
        replace kd : w10.cell? ⟨w.heap.size + 1, 1, none⟩ = some (.int .i64 d2) := (hb.cell (by first | omega | (simp <;> omega))).trans (by (simp (maxDischargeDepth := 8) [go_sem, World.cell?_alloc_past, ltk2, ltk3, ltk4, ltk5, ltk6, ltk7, ltk8, ltk9, *]))
        replace r6_0 : w10.cell? ⟨w6.heap.size, 0, none⟩ = some (.int .i64 v1) := (hb.cell (by first | omega | (simp <;> omega))).trans (by (simp (maxDischargeDepth := 8) [go_sem, World.cell?_alloc_past, ltk2, ltk3, ltk4, ltk5, ltk6, ltk7, ltk8, ltk9, *]))
        replace r6_1 : w10.cell? ⟨w6.heap.size, 1, none⟩ = some (.int .i64 v2) := (hb.cell (by first | omega | (simp <;> omega))).trans (by (simp (maxDischargeDepth := 8) [go_sem, World.cell?_alloc_past, ltk2, ltk3, ltk4, ltk5, ltk6, ltk7, ltk8, ltk9, *]))
        have r9_0 : w10.cell? ⟨w9.heap.size, 0, none⟩ = some (.int .i64 q1) := (hb.cell (by first | omega | (simp <;> omega))).trans (by (simp (maxDischargeDepth := 8) [go_sem, World.cell?_alloc_past, ltk2, ltk3, ltk4, ltk5, ltk6, ltk7, ltk8, ltk9, *]))
        have r9_1 : w10.cell? ⟨w9.heap.size, 1, none⟩ = some (.int .i64 q2) := (hb.cell (by first | omega | (simp <;> omega))).trans (by (simp (maxDischargeDepth := 8) [go_sem, World.cell?_alloc_past, ltk2, ltk3, ltk4, ltk5, ltk6, ltk7, ltk8, ltk9, *]))
        clear hb HB9
        have zy10 : w.heap.size < w10.heap.size := by omega
        have zx10 : w.heap.size + 1 < w10.heap.size := by omega
        have zz_w6_10 : w6.heap.size < w10.heap.size := by omega
        have zz_w9_10 : w9.heap.size < w10.heap.size := by omega
        go_wp2_with fail
        go_ret
        exact ⟨rfl, by (repeat (first | with_reducible exact HB10 | (with_reducible refine bext ?_ _ _) | (with_reducible refine below_drewN ?_ _) | (with_reducible refine Below.drew ?_) | (with_reducible refine bal ?_ _) | (with_reducible refine bset ?_ (by first | omega | (simp <;> omega)) _)))⟩
      · rcases DV.out.2 hz with e0 | e16
        · subst e0; have hz2 : (n2 == 0) = false := by simp [hz]
          have AB := A9.out hz rfl
          clear hz DV A7 A9
          go_wp2_with fail
          refine (A8 _).mono ?_
          rintro e w9 ⟨rfl, hb⟩
          have HB9 : Below w.heap.size w w9 := by
            refine Below.trans ?_ (hb.mono ?_)
            · (repeat (first | exact HB8 | (refine bal ?_ _) | (refine below_drewN ?_ _) | (refine Below.drew ?_)))
            · first | omega | (simp <;> omega)
          have zs9 : w8.heap.size + 0 < w9.heap.size + 1 := by have := hb.size; (try simp at this); omega
          replace ka : w9.cell? ⟨w.heap.size, 0, none⟩ = some (.int .i64 n1) := (hb.cell (by first | omega | (simp <;> omega))).trans (by (simp (maxDischargeDepth := 8) [go_sem, World.cell?_alloc_past, ltk2, ltk3, ltk4, ltk5, ltk6, ltk7, ltk8, ltk9, *]))
          replace kb : w9.cell? ⟨w.heap.size, 1, none⟩ = some (.int .i64 d1) := (hb.cell (by first | omega | (simp <;> omega))).trans (by (simp (maxDischargeDepth := 8) [go_sem, World.cell?_alloc_past, ltk2, ltk3, ltk4, ltk5, ltk6, ltk7, ltk8, ltk9, *]))
          replace kc : w9.cell? ⟨w.heap.size + 1, 0, none⟩ = some (.int .i64 n2) := (hb.cell (by first | omega | (simp <;> omega))).trans (by (simp (maxDischargeDepth := 8) [go_sem, World.cell?_alloc_past, ltk2, ltk3, ltk4, ltk5, ltk6, ltk7, ltk8, ltk9, *]))
          replace kd : w9.cell? ⟨w.heap.size + 1, 1, none⟩ = some (.int .i64 d2) := (hb.cell (by first | omega | (simp <;> omega))).trans (by (simp (maxDischargeDepth := 8) [go_sem, World.cell?_alloc_past, ltk2, ltk3, ltk4, ltk5, ltk6, ltk7, ltk8, ltk9, *]))
          replace r6_0 : w9.cell? ⟨w6.heap.size, 0, none⟩ = some (.int .i64 v1) := (hb.cell (by first | omega | (simp <;> omega))).trans (by (simp (maxDischargeDepth := 8) [go_sem, World.cell?_alloc_past, ltk2, ltk3, ltk4, ltk5, ltk6, ltk7, ltk8, ltk9, *]))
          replace r6_1 : w9.cell? ⟨w6.heap.size, 1, none⟩ = some (.int .i64 v2) := (hb.cell (by first | omega | (simp <;> omega))).trans (by (simp (maxDischargeDepth := 8) [go_sem, World.cell?_alloc_past, ltk2, ltk3, ltk4, ltk5, ltk6, ltk7, ltk8, ltk9, *]))
          clear hb HB8
          have zy9 : w.heap.size < w9.heap.size := by omega
          have zx9 : w.heap.size + 1 < w9.heap.size := by omega
          have zz_w6_9 : w6.heap.size < w9.heap.size := by omega
          go_wp2_with fail
          refine (AB _).mono ?_
          rintro e w10 ⟨rfl, hb⟩
          have HB10 : Below w.heap.size w w10 := by
            refine Below.trans ?_ (hb.mono ?_)
            · (repeat (first | exact HB9 | (refine bal ?_ _) | (refine below_drewN ?_ _) | (refine Below.drew ?_)))
            · first | omega | (simp <;> omega)
          have zs10 : w9.heap.size + 1 < w10.heap.size + 1 := by have := hb.size; (try simp at this); omega
          replace ka : w10.cell? ⟨w.heap.size, 0, none⟩ = some (.int .i64 n1) := (hb.cell (by first | omega | (simp <;> omega))).trans (by (simp (maxDischargeDepth := 8) [go_sem, World.cell?_alloc_past, ltk2, ltk3, ltk4, ltk5, ltk6, ltk7, ltk8, ltk9, *]))
          replace kb : w10.cell? ⟨w.heap.size, 1, none⟩ = some (.int .i64 d1) := (hb.cell (by first | omega | (simp <;> omega))).trans (by (simp (maxDischargeDepth := 8) [go_sem, World.cell?_alloc_past, ltk2, ltk3, ltk4, ltk5, ltk6, ltk7, ltk8, ltk9, *]))
          replace kc : w10.cell? ⟨w.heap.size + 1, 0, none⟩ = some (.int .i64 n2) := (hb.cell (by first | omega | (simp <;> omega))).trans (by (simp (maxDischargeDepth := 8) [go_sem, World.cell?_alloc_past, ltk2, ltk3, ltk4, ltk5, ltk6, ltk7, ltk8, ltk9, *]))
          replace kd : w10.cell? ⟨w.heap.size + 1, 1, none⟩ = some (.int .i64 d2) := (hb.cell (by first | omega | (simp <;> omega))).trans (by (simp (maxDischargeDepth := 8) [go_sem, World.cell?_alloc_past, ltk2, ltk3, ltk4, ltk5, ltk6, ltk7, ltk8, ltk9, *]))
          replace r6_0 : w10.cell? ⟨w6.heap.size, 0, none⟩ = some (.int .i64 v1) := (hb.cell (by first | omega | (simp <;> omega))).trans (by (simp (maxDischargeDepth := 8) [go_sem, World.cell?_alloc_past, ltk2, ltk3, ltk4, ltk5, ltk6, ltk7, ltk8, ltk9, *]))
          replace r6_1 : w10.cell? ⟨w6.heap.size, 1, none⟩ = some (.int .i64 v2) := (hb.cell (by first | omega | (simp <;> omega))).trans (by (simp (maxDischargeDepth := 8) [go_sem, World.cell?_alloc_past, ltk2, ltk3, ltk4, ltk5, ltk6, ltk7, ltk8, ltk9, *]))
          have r9_0 : w10.cell? ⟨w9.heap.size, 0, none⟩ = some (.int .i64 q1) := (hb.cell (by first | omega | (simp <;> omega))).trans (by (simp (maxDischargeDepth := 8) [go_sem, World.cell?_alloc_past, ltk2, ltk3, ltk4, ltk5, ltk6, ltk7, ltk8, ltk9, *]))
          have r9_1 : w10.cell? ⟨w9.heap.size, 1, none⟩ = some (.int .i64 q2) := (hb.cell (by first | omega | (simp <;> omega))).trans (by (simp (maxDischargeDepth := 8) [go_sem, World.cell?_alloc_past, ltk2, ltk3, ltk4, ltk5, ltk6, ltk7, ltk8, ltk9, *]))
          clear hb HB9
          have zy10 : w.heap.size < w10.heap.size := by omega
          have zx10 : w.heap.size + 1 < w10.heap.size := by omega
          have zz_w6_10 : w6.heap.size < w10.heap.size := by omega
          have zz_w9_10 : w9.heap.size < w10.heap.size := by omega
          go_wp2_with fail
          refine (AA _).mono ?_
          rintro e w11 ⟨rfl, hb⟩
          have HB11 : Below w.heap.size w w11 := by
            refine Below.trans ?_ (hb.mono ?_)
            · (repeat (first | exact HB10 | (refine bal ?_ _) | (refine below_drewN ?_ _) | (refine Below.drew ?_)))
            · first | omega | (simp <;> omega)
          have zs11 : w10.heap.size + 0 < w11.heap.size + 1 := by have := hb.size; (try simp at this); omega
          replace ka : w11.cell? ⟨w.heap.size, 0, none⟩ = some (.int .i64 n1) := (hb.cell (by first | omega | (simp <;> omega))).trans (by (simp (maxDischargeDepth := 8) [go_sem, World.cell?_alloc_past, ltk2, ltk3, ltk4, ltk5, ltk6, ltk7, ltk8, ltk9, *]))
          replace kb : w11.cell? ⟨w.heap.size, 1, none⟩ = some (.int .i64 d1) := (hb.cell (by first | omega | (simp <;> omega))).trans (by (simp (maxDischargeDepth := 8) [go_sem, World.cell?_alloc_past, ltk2, ltk3, ltk4, ltk5, ltk6, ltk7, ltk8, ltk9, *]))
          replace kc : w11.cell? ⟨w.heap.size + 1, 0, none⟩ = some (.int .i64 n2) := (hb.cell (by first | omega | (simp <;> omega))).trans (by (simp (maxDischargeDepth := 8) [go_sem, World.cell?_alloc_past, ltk2, ltk3, ltk4, ltk5, ltk6, ltk7, ltk8, ltk9, *]))
          replace kd : w11.cell? ⟨w.heap.size + 1, 1, none⟩ = some (.int .i64 d2) := (hb.cell (by first | omega | (simp <;> omega))).trans (by (simp (maxDischargeDepth := 8) [go_sem, World.cell?_alloc_past, ltk2, ltk3, ltk4, ltk5, ltk6, ltk7, ltk8, ltk9, *]))
          replace r6_0 : w11.cell? ⟨w6.heap.size, 0, none⟩ = some (.int .i64 v1) := (hb.cell (by first | omega | (simp <;> omega))).trans (by (simp (maxDischargeDepth := 8) [go_sem, World.cell?_alloc_past, ltk2, ltk3, ltk4, ltk5, ltk6, ltk7, ltk8, ltk9, *]))
          replace r6_1 : w11.cell? ⟨w6.heap.size, 1, none⟩ = some (.int .i64 v2) := (hb.cell (by first | omega | (simp <;> omega))).trans (by (simp (maxDischargeDepth := 8) [go_sem, World.cell?_alloc_past, ltk2, ltk3, ltk4, ltk5, ltk6, ltk7, ltk8, ltk9, *]))
          replace r9_0 : w11.cell? ⟨w9.heap.size, 0, none⟩ = some (.int .i64 q1) := (hb.cell (by first | omega | (simp <;> omega))).trans (by (simp (maxDischargeDepth := 8) [go_sem, World.cell?_alloc_past, ltk2, ltk3, ltk4, ltk5, ltk6, ltk7, ltk8, ltk9, *]))
          replace r9_1 : w11.cell? ⟨w9.heap.size, 1, none⟩ = some (.int .i64 q2) := (hb.cell (by first | omega | (simp <;> omega))).trans (by (simp (maxDischargeDepth := 8) [go_sem, World.cell?_alloc_past, ltk2, ltk3, ltk4, ltk5, ltk6, ltk7, ltk8, ltk9, *]))
          clear hb HB10
          have zy11 : w.heap.size < w11.heap.size := by omega
          have zx11 : w.heap.size + 1 < w11.heap.size := by omega
          have zz_w6_11 : w6.heap.size < w11.heap.size := by omega
          have zz_w9_11 : w9.heap.size < w11.heap.size := by omega
          go_wp2_with fail
          go_ret
          exact ⟨rfl, by (repeat (first | with_reducible exact HB11 | (with_reducible refine bext ?_ _ _) | (with_reducible refine below_drewN ?_ _) | (with_reducible refine Below.drew ?_) | (with_reducible refine bal ?_ _) | (with_reducible refine bset ?_ (by first | omega | (simp <;> omega)) _)))⟩
        · subst e16; have hz2 : (n2 == 0) = false := by simp [hz]
          clear hz DV A7 A9
          go_wp2_with fail
          refine (A8 _).mono ?_
          rintro e w9 ⟨rfl, hb⟩
          have HB9 : Below w.heap.size w w9 := by
            refine Below.trans ?_ (hb.mono ?_)
            · (repeat (first | exact HB8 | (refine bal ?_ _) | (refine below_drewN ?_ _) | (refine Below.drew ?_)))
            · first | omega | (simp <;> omega)
          have zs9 : w8.heap.size + 0 < w9.heap.size + 1 := by have := hb.size; (try simp at this); omega
          replace ka : w9.cell? ⟨w.heap.size, 0, none⟩ = some (.int .i64 n1) := (hb.cell (by first | omega | (simp <;> omega))).trans (by (simp (maxDischargeDepth := 8) [go_sem, World.cell?_alloc_past, ltk2, ltk3, ltk4, ltk5, ltk6, ltk7, ltk8, ltk9, *]))
          replace kb : w9.cell? ⟨w.heap.size, 1, none⟩ = some (.int .i64 d1) := (hb.cell (by first | omega | (simp <;> omega))).trans (by (simp (maxDischargeDepth := 8) [go_sem, World.cell?_alloc_past, ltk2, ltk3, ltk4, ltk5, ltk6, ltk7, ltk8, ltk9, *]))
          replace kc : w9.cell? ⟨w.heap.size + 1, 0, none⟩ = some (.int .i64 n2) := (hb.cell (by first | omega | (simp <;> omega))).trans (by (simp (maxDischargeDepth := 8) [go_sem, World.cell?_alloc_past, ltk2, ltk3, ltk4, ltk5, ltk6, ltk7, ltk8, ltk9, *]))
          replace kd : w9.cell? ⟨w.heap.size + 1, 1, none⟩ = some (.int .i64 d2) := (hb.cell (by first | omega | (simp <;> omega))).trans (by (simp (maxDischargeDepth := 8) [go_sem, World.cell?_alloc_past, ltk2, ltk3, ltk4, ltk5, ltk6, ltk7, ltk8, ltk9, *]))
          replace r6_0 : w9.cell? ⟨w6.heap.size, 0, none⟩ = some (.int .i64 v1) := (hb.cell (by first | omega | (simp <;> omega))).trans (by (simp (maxDischargeDepth := 8) [go_sem, World.cell?_alloc_past, ltk2, ltk3, ltk4, ltk5, ltk6, ltk7, ltk8, ltk9, *]))
          replace r6_1 : w9.cell? ⟨w6.heap.size, 1, none⟩ = some (.int .i64 v2) := (hb.cell (by first | omega | (simp <;> omega))).trans (by (simp (maxDischargeDepth := 8) [go_sem, World.cell?_alloc_past, ltk2, ltk3, ltk4, ltk5, ltk6, ltk7, ltk8, ltk9, *]))
          clear hb HB8
          have zy9 : w.heap.size < w9.heap.size := by omega
          have zx9 : w.heap.size + 1 < w9.heap.size := by omega
          have zz_w6_9 : w6.heap.size < w9.heap.size := by omega
          go_wp2_with fail
          refine (AA _).mono ?_
          rintro e w10 ⟨rfl, hb⟩
          have HB10 : Below w.heap.size w w10 := by
            refine Below.trans ?_ (hb.mono ?_)
            · (repeat (first | exact HB9 | (refine bal ?_ _) | (refine below_drewN ?_ _) | (refine Below.drew ?_)))
            · first | omega | (simp <;> omega)
          have zs10 : w9.heap.size + 1 < w10.heap.size + 1 := by have := hb.size; (try simp at this); omega
          replace ka : w10.cell? ⟨w.heap.size, 0, none⟩ = some (.int .i64 n1) := (hb.cell (by first | omega | (simp <;> omega))).trans (by (simp (maxDischargeDepth := 8) [go_sem, World.cell?_alloc_past, ltk2, ltk3, ltk4, ltk5, ltk6, ltk7, ltk8, ltk9, *]))
          replace kb : w10.cell? ⟨w.heap.size, 1, none⟩ = some (.int .i64 d1) := (hb.cell (by first | omega | (simp <;> omega))).trans (by (simp (maxDischargeDepth := 8) [go_sem, World.cell?_alloc_past, ltk2, ltk3, ltk4, ltk5, ltk6, ltk7, ltk8, ltk9, *]))
          replace kc : w10.cell? ⟨w.heap.size + 1, 0, none⟩ = some (.int .i64 n2) := (hb.cell (by first | omega | (simp <;> omega))).trans (by (simp (maxDischargeDepth := 8) [go_sem, World.cell?_alloc_past, ltk2, ltk3, ltk4, ltk5, ltk6, ltk7, ltk8, ltk9, *]))
          replace kd : w10.cell? ⟨w.heap.size + 1, 1, none⟩ = some (.int .i64 d2) := (hb.cell (by first | omega | (simp <;> omega))).trans (by (simp (maxDischargeDepth := 8) [go_sem, World.cell?_alloc_past, ltk2, ltk3, ltk4, ltk5, ltk6, ltk7, ltk8, ltk9, *]))
          replace r6_0 : w10.cell? ⟨w6.heap.size, 0, none⟩ = some (.int .i64 v1) := (hb.cell (by first | omega | (simp <;> omega))).trans (by (simp (maxDischargeDepth := 8) [go_sem, World.cell?_alloc_past, ltk2, ltk3, ltk4, ltk5, ltk6, ltk7, ltk8, ltk9, *]))
          replace r6_1 : w10.cell? ⟨w6.heap.size, 1, none⟩ = some (.int .i64 v2) := (hb.cell (by first | omega | (simp <;> omega))).trans (by (simp (maxDischargeDepth := 8) [go_sem, World.cell?_alloc_past, ltk2, ltk3, ltk4, ltk5, ltk6, ltk7, ltk8, ltk9, *]))
          have r9_0 : w10.cell? ⟨w9.heap.size, 0, none⟩ = some (.int .i64 q1) := (hb.cell (by first | omega | (simp <;> omega))).trans (by (simp (maxDischargeDepth := 8) [go_sem, World.cell?_alloc_past, ltk2, ltk3, ltk4, ltk5, ltk6, ltk7, ltk8, ltk9, *]))
          have r9_1 : w10.cell? ⟨w9.heap.size, 1, none⟩ = some (.int .i64 q2) := (hb.cell (by first | omega | (simp <;> omega))).trans (by (simp (maxDischargeDepth := 8) [go_sem, World.cell?_alloc_past, ltk2, ltk3, ltk4, ltk5, ltk6, ltk7, ltk8, ltk9, *]))
          clear hb HB9
          have zy10 : w.heap.size < w10.heap.size := by omega
          have zx10 : w.heap.size + 1 < w10.heap.size := by omega
          have zz_w6_10 : w6.heap.size < w10.heap.size := by omega
          have zz_w9_10 : w9.heap.size < w10.heap.size := by omega
          go_wp2_with fail
          go_ret
          exact ⟨rfl, by (repeat (first | with_reducible exact HB10 | (with_reducible refine bext ?_ _ _) | (with_reducible refine below_drewN ?_ _) | (with_reducible refine Below.drew ?_) | (with_reducible refine bal ?_ _) | (with_reducible refine bset ?_ (by first | omega | (simp <;> omega)) _)))⟩
  · have hv2 : (v3 == 0) = false := by simp [hv]
    clear SG hv
    by_cases hz : n2 = 0
    · have e18 : q3 = 18 := DV.out.1 hz
      subst e18; have hz2 : (n2 == 0) = true := by simp [hz]
      clear hz DV A7 A9
      go_wp2_with fail
      refine (A8 _).mono ?_
      rintro e w8 ⟨rfl, hb⟩
      have HB8 : Below w.heap.size w w8 := by
        refine Below.trans ?_ (hb.mono ?_)
        · (repeat (first | exact HB7 | (refine bal ?_ _) | (refine below_drewN ?_ _) | (refine Below.drew ?_)))
        · first | omega | (simp <;> omega)
      have zs8 : w7.heap.size + 0 < w8.heap.size + 1 := by have := hb.size; (try simp at this); omega
      replace ka : w8.cell? ⟨w.heap.size, 0, none⟩ = some (.int .i64 n1) := (hb.cell (by first | omega | (simp <;> omega))).trans (by (simp (maxDischargeDepth := 8) [go_sem, World.cell?_alloc_past, ltk2, ltk3, ltk4, ltk5, ltk6, ltk7, ltk8, ltk9, *]))
      replace kb : w8.cell? ⟨w.heap.size, 1, none⟩ = some (.int .i64 d1) := (hb.cell (by first | omega | (simp <;> omega))).trans (by (simp (maxDischargeDepth := 8) [go_sem, World.cell?_alloc_past, ltk2, ltk3, ltk4, ltk5, ltk6, ltk7, ltk8, ltk9, *]))
      replace kc : w8.cell? ⟨w.heap.size + 1, 0, none⟩ = some (.int .i64 n2) := (hb.cell (by first | omega | (simp <;> omega))).trans (by (simp (maxDischargeDepth := 8) [go_sem, World.cell?_alloc_past, ltk2, ltk3, ltk4, ltk5, ltk6, ltk7, ltk8, ltk9, *]))
      replace kd : w8.cell? ⟨w.heap.size + 1, 1, none⟩ = some (.int .i64 d2) := (hb.cell (by first | omega | (simp <;> omega))).trans (by (simp (maxDischargeDepth := 8) [go_sem, World.cell?_alloc_past, ltk2, ltk3, ltk4, ltk5, ltk6, ltk7, ltk8, ltk9, *]))
      replace r6_0 : w8.cell? ⟨w6.heap.size, 0, none⟩ = some (.int .i64 v1) := (hb.cell (by first | omega | (simp <;> omega))).trans (by (simp (maxDischargeDepth := 8) [go_sem, World.cell?_alloc_past, ltk2, ltk3, ltk4, ltk5, ltk6, ltk7, ltk8, ltk9, *]))
      replace r6_1 : w8.cell? ⟨w6.heap.size, 1, none⟩ = some (.int .i64 v2) := (hb.cell (by first | omega | (simp <;> omega))).trans (by (simp (maxDischargeDepth := 8) [go_sem, World.cell?_alloc_past, ltk2, ltk3, ltk4, ltk5, ltk6, ltk7, ltk8, ltk9, *]))
      clear hb HB7
      have zy8 : w.heap.size < w8.heap.size := by omega
      have zx8 : w.heap.size + 1 < w8.heap.size := by omega
      have zz_w6_8 : w6.heap.size < w8.heap.size := by omega
      go_wp2_with fail
      refine (AA _).mono ?_
      rintro e w9 ⟨rfl, hb⟩
      have HB9 : Below w.heap.size w w9 := by
        refine Below.trans ?_ (hb.mono ?_)
        · (repeat (first | exact HB8 | (refine bal ?_ _) | (refine below_drewN ?_ _) | (refine Below.drew ?_)))
        · first | omega | (simp <;> omega)
      have zs9 : w8.heap.size + 1 < w9.heap.size + 1 := by have := hb.size; (try simp at this); omega
      replace ka : w9.cell? ⟨w.heap.size, 0, none⟩ = some (.int .i64 n1) := (hb.cell (by first | omega | (simp <;> omega))).trans (by (simp (maxDischargeDepth := 8) [go_sem, World.cell?_alloc_past, ltk2, ltk3, ltk4, ltk5, ltk6, ltk7, ltk8, ltk9, *]))
      replace kb : w9.cell? ⟨w.heap.size, 1, none⟩ = some (.int .i64 d1) := (hb.cell (by first | omega | (simp <;> omega))).trans (by (simp (maxDischargeDepth := 8) [go_sem, World.cell?_alloc_past, ltk2, ltk3, ltk4, ltk5, ltk6, ltk7, ltk8, ltk9, *]))
      replace kc : w9.cell? ⟨w.heap.size + 1, 0, none⟩ = some (.int .i64 n2) := (hb.cell (by first | omega | (simp <;> omega))).trans (by (simp (maxDischargeDepth := 8) [go_sem, World.cell?_alloc_past, ltk2, ltk3, ltk4, ltk5, ltk6, ltk7, ltk8, ltk9, *]))
      replace kd : w9.cell? ⟨w.heap.size + 1, 1, none⟩ = some (.int .i64 d2) := (hb.cell (by first | omega | (simp <;> omega))).trans (by (simp (maxDischargeDepth := 8) [go_sem, World.cell?_alloc_past, ltk2, ltk3, ltk4, ltk5, ltk6, ltk7, ltk8, ltk9, *]))
      replace r6_0 : w9.cell? ⟨w6.heap.size, 0, none⟩ = some (.int .i64 v1) := (hb.cell (by first | omega | (simp <;> omega))).trans (by (simp (maxDischargeDepth := 8) [go_sem, World.cell?_alloc_past, ltk2, ltk3, ltk4, ltk5, ltk6, ltk7, ltk8, ltk9, *]))
      replace r6_1 : w9.cell? ⟨w6.heap.size, 1, none⟩ = some (.int .i64 v2) := (hb.cell (by first | omega | (simp <;> omega))).trans (by (simp (maxDischargeDepth := 8) [go_sem, World.cell?_alloc_past, ltk2, ltk3, ltk4, ltk5, ltk6, ltk7, ltk8, ltk9, *]))
      have r8_0 : w9.cell? ⟨w8.heap.size, 0, none⟩ = some (.int .i64 q1) := (hb.cell (by first | omega | (simp <;> omega))).trans (by (simp (maxDischargeDepth := 8) [go_sem, World.cell?_alloc_past, ltk2, ltk3, ltk4, ltk5, ltk6, ltk7, ltk8, ltk9, *]))
      have r8_1 : w9.cell? ⟨w8.heap.size, 1, none⟩ = some (.int .i64 q2) := (hb.cell (by first | omega | (simp <;> omega))).trans (by (simp (maxDischargeDepth := 8) [go_sem, World.cell?_alloc_past, ltk2, ltk3, ltk4, ltk5, ltk6, ltk7, ltk8, ltk9, *]))
      clear hb HB8
      have zy9 : w.heap.size < w9.heap.size := by omega
      have zx9 : w.heap.size + 1 < w9.heap.size := by omega
      have zz_w6_9 : w6.heap.size < w9.heap.size := by omega
      have zz_w8_9 : w8.heap.size < w9.heap.size := by omega
      go_wp2_with fail
      go_ret
      exact ⟨rfl, by (repeat (first | with_reducible exact HB9 | (with_reducible refine bext ?_ _ _) | (with_reducible refine below_drewN ?_ _) | (with_reducible refine Below.drew ?_) | (with_reducible refine bal ?_ _) | (with_reducible refine bset ?_ (by first | omega | (simp <;> omega)) _)))⟩
    · rcases DV.out.2 hz with e0 | e16
      · subst e0; have hz2 : (n2 == 0) = false := by simp [hz]
        have AB := A9.out hz rfl
        clear hz DV A7 A9
        go_wp2_with fail
        refine (A8 _).mono ?_
        rintro e w8 ⟨rfl, hb⟩
        have HB8 : Below w.heap.size w w8 := by
          refine Below.trans ?_ (hb.mono ?_)
          · (repeat (first | exact HB7 | (refine bal ?_ _) | (refine below_drewN ?_ _) | (refine Below.drew ?_)))
          · first | omega | (simp <;> omega)
        have zs8 : w7.heap.size + 0 < w8.heap.size + 1 := by have := hb.size; (try simp at this); omega
        replace ka : w8.cell? ⟨w.heap.size, 0, none⟩ = some (.int .i64 n1) := (hb.cell (by first | omega | (simp <;> omega))).trans (by (simp (maxDischargeDepth := 8) [go_sem, World.cell?_alloc_past, ltk2, ltk3, ltk4, ltk5, ltk6, ltk7, ltk8, ltk9, *]))
        replace kb : w8.cell? ⟨w.heap.size, 1, none⟩ = some (.int .i64 d1) := (hb.cell (by first | omega | (simp <;> omega))).trans (by (simp (maxDischargeDepth := 8) [go_sem, World.cell?_alloc_past, ltk2, ltk3, ltk4, ltk5, ltk6, ltk7, ltk8, ltk9, *]))
        replace kc : w8.cell? ⟨w.heap.size + 1, 0, none⟩ = some (.int .i64 n2) := (hb.cell (by first | omega | (simp <;> omega))).trans (by (simp (maxDischargeDepth := 8) [go_sem, World.cell?_alloc_past, ltk2, ltk3, ltk4, ltk5, ltk6, ltk7, ltk8, ltk9, *]))
        replace kd : w8.cell? ⟨w.heap.size + 1, 1, none⟩ = some (.int .i64 d2) := (hb.cell (by first | omega | (simp <;> omega))).trans (by (simp (maxDischargeDepth := 8) [go_sem, World.cell?_alloc_past, ltk2, ltk3, ltk4, ltk5, ltk6, ltk7, ltk8, ltk9, *]))
        replace r6_0 : w8.cell? ⟨w6.heap.size, 0, none⟩ = some (.int .i64 v1) := (hb.cell (by first | omega | (simp <;> omega))).trans (by (simp (maxDischargeDepth := 8) [go_sem, World.cell?_alloc_past, ltk2, ltk3, ltk4, ltk5, ltk6, ltk7, ltk8, ltk9, *]))
        replace r6_1 : w8.cell? ⟨w6.heap.size, 1, none⟩ = some (.int .i64 v2) := (hb.cell (by first | omega | (simp <;> omega))).trans (by (simp (maxDischargeDepth := 8) [go_sem, World.cell?_alloc_past, ltk2, ltk3, ltk4, ltk5, ltk6, ltk7, ltk8, ltk9, *]))
        clear hb HB7
        have zy8 : w.heap.size < w8.heap.size := by omega
        have zx8 : w.heap.size + 1 < w8.heap.size := by omega
        have zz_w6_8 : w6.heap.size < w8.heap.size := by omega
        go_wp2_with fail
        refine (AB _).mono ?_
        rintro e w9 ⟨rfl, hb⟩
        have HB9 : Below w.heap.size w w9 := by
          refine Below.trans ?_ (hb.mono ?_)
          · (repeat (first | exact HB8 | (refine bal ?_ _) | (refine below_drewN ?_ _) | (refine Below.drew ?_)))
          · first | omega | (simp <;> omega)
        have zs9 : w8.heap.size + 1 < w9.heap.size + 1 := by have := hb.size; (try simp at this); omega
        replace ka : w9.cell? ⟨w.heap.size, 0, none⟩ = some (.int .i64 n1) := (hb.cell (by first | omega | (simp <;> omega))).trans (by (simp (maxDischargeDepth := 8) [go_sem, World.cell?_alloc_past, ltk2, ltk3, ltk4, ltk5, ltk6, ltk7, ltk8, ltk9, *]))
        replace kb : w9.cell? ⟨w.heap.size, 1, none⟩ = some (.int .i64 d1) := (hb.cell (by first | omega | (simp <;> omega))).trans (by (simp (maxDischargeDepth := 8) [go_sem, World.cell?_alloc_past, ltk2, ltk3, ltk4, ltk5, ltk6, ltk7, ltk8, ltk9, *]))
        replace kc : w9.cell? ⟨w.heap.size + 1, 0, none⟩ = some (.int .i64 n2) := (hb.cell (by first | omega | (simp <;> omega))).trans (by (simp (maxDischargeDepth := 8) [go_sem, World.cell?_alloc_past, ltk2, ltk3, ltk4, ltk5, ltk6, ltk7, ltk8, ltk9, *]))
        replace kd : w9.cell? ⟨w.heap.size + 1, 1, none⟩ = some (.int .i64 d2) := (hb.cell (by first | omega | (simp <;> omega))).trans (by (simp (maxDischargeDepth := 8) [go_sem, World.cell?_alloc_past, ltk2, ltk3, ltk4, ltk5, ltk6, ltk7, ltk8, ltk9, *]))
        replace r6_0 : w9.cell? ⟨w6.heap.size, 0, none⟩ = some (.int .i64 v1) := (hb.cell (by first | omega | (simp <;> omega))).trans (by (simp (maxDischargeDepth := 8) [go_sem, World.cell?_alloc_past, ltk2, ltk3, ltk4, ltk5, ltk6, ltk7, ltk8, ltk9, *]))
        replace r6_1 : w9.cell? ⟨w6.heap.size, 1, none⟩ = some (.int .i64 v2) := (hb.cell (by first | omega | (simp <;> omega))).trans (by (simp (maxDischargeDepth := 8) [go_sem, World.cell?_alloc_past, ltk2, ltk3, ltk4, ltk5, ltk6, ltk7, ltk8, ltk9, *]))
        have r8_0 : w9.cell? ⟨w8.heap.size, 0, none⟩ = some (.int .i64 q1) := (hb.cell (by first | omega | (simp <;> omega))).trans (by (simp (maxDischargeDepth := 8) [go_sem, World.cell?_alloc_past, ltk2, ltk3, ltk4, ltk5, ltk6, ltk7, ltk8, ltk9, *]))
        have r8_1 : w9.cell? ⟨w8.heap.size, 1, none⟩ = some (.int .i64 q2) := (hb.cell (by first | omega | (simp <;> omega))).trans (by (simp (maxDischargeDepth := 8) [go_sem, World.cell?_alloc_past, ltk2, ltk3, ltk4, ltk5, ltk6, ltk7, ltk8, ltk9, *]))
        clear hb HB8
        have zy9 : w.heap.size < w9.heap.size := by omega
        have zx9 : w.heap.size + 1 < w9.heap.size := by omega
        have zz_w6_9 : w6.heap.size < w9.heap.size := by omega
        have zz_w8_9 : w8.heap.size < w9.heap.size := by omega
        go_wp2_with fail
        refine (AA _).mono ?_
        rintro e w10 ⟨rfl, hb⟩
        have HB10 : Below w.heap.size w w10 := by
          refine Below.trans ?_ (hb.mono ?_)
          · (repeat (first | exact HB9 | (refine bal ?_ _) | (refine below_drewN ?_ _) | (refine Below.drew ?_)))
          · first | omega | (simp <;> omega)
        have zs10 : w9.heap.size + 0 < w10.heap.size + 1 := by have := hb.size; (try simp at this); omega
        replace ka : w10.cell? ⟨w.heap.size, 0, none⟩ = some (.int .i64 n1) := (hb.cell (by first | omega | (simp <;> omega))).trans (by (simp (maxDischargeDepth := 8) [go_sem, World.cell?_alloc_past, ltk2, ltk3, ltk4, ltk5, ltk6, ltk7, ltk8, ltk9, *]))
        replace kb : w10.cell? ⟨w.heap.size, 1, none⟩ = some (.int .i64 d1) := (hb.cell (by first | omega | (simp <;> omega))).trans (by (simp (maxDischargeDepth := 8) [go_sem, World.cell?_alloc_past, ltk2, ltk3, ltk4, ltk5, ltk6, ltk7, ltk8, ltk9, *]))
        replace kc : w10.cell? ⟨w.heap.size + 1, 0, none⟩ = some (.int .i64 n2) := (hb.cell (by first | omega | (simp <;> omega))).trans (by (simp (maxDischargeDepth := 8) [go_sem, World.cell?_alloc_past, ltk2, ltk3, ltk4, ltk5, ltk6, ltk7, ltk8, ltk9, *]))
        replace kd : w10.cell? ⟨w.heap.size + 1, 1, none⟩ = some (.int .i64 d2) := (hb.cell (by first | omega | (simp <;> omega))).trans (by (simp (maxDischargeDepth := 8) [go_sem, World.cell?_alloc_past, ltk2, ltk3, ltk4, ltk5, ltk6, ltk7, ltk8, ltk9, *]))
        replace r6_0 : w10.cell? ⟨w6.heap.size, 0, none⟩ = some (.int .i64 v1) := (hb.cell (by first | omega | (simp <;> omega))).trans (by (simp (maxDischargeDepth := 8) [go_sem, World.cell?_alloc_past, ltk2, ltk3, ltk4, ltk5, ltk6, ltk7, ltk8, ltk9, *]))
        replace r6_1 : w10.cell? ⟨w6.heap.size, 1, none⟩ = some (.int .i64 v2) := (hb.cell (by first | omega | (simp <;> omega))).trans (by (simp (maxDischargeDepth := 8) [go_sem, World.cell?_alloc_past, ltk2, ltk3, ltk4, ltk5, ltk6, ltk7, ltk8, ltk9, *]))
        replace r8_0 : w10.cell? ⟨w8.heap.size, 0, none⟩ = some (.int .i64 q1) := (hb.cell (by first | omega | (simp <;> omega))).trans (by (simp (maxDischargeDepth := 8) [go_sem, World.cell?_alloc_past, ltk2, ltk3, ltk4, ltk5, ltk6, ltk7, ltk8, ltk9, *]))
        replace r8_1 : w10.cell? ⟨w8.heap.size, 1, none⟩ = some (.int .i64 q2) := (hb.cell (by first | omega | (simp <;> omega))).trans (by (simp (maxDischargeDepth := 8) [go_sem, World.cell?_alloc_past, ltk2, ltk3, ltk4, ltk5, ltk6, ltk7, ltk8, ltk9, *]))
        clear hb HB9
        have zy10 : w.heap.size < w10.heap.size := by omega
        have zx10 : w.heap.size + 1 < w10.heap.size := by omega
        have zz_w6_10 : w6.heap.size < w10.heap.size := by omega
        have zz_w8_10 : w8.heap.size < w10.heap.size := by omega
        go_wp2_with fail
        go_ret
        exact ⟨rfl, by (repeat (first | with_reducible exact HB10 | (with_reducible refine bext ?_ _ _) | (with_reducible refine below_drewN ?_ _) | (with_reducible refine Below.drew ?_) | (with_reducible refine bal ?_ _) | (with_reducible refine bset ?_ (by first | omega | (simp <;> omega)) _)))⟩
      · subst e16; have hz2 : (n2 == 0) = false := by simp [hz]
        clear hz DV A7 A9
        go_wp2_with fail
        refine (A8 _).mono ?_
        rintro e w8 ⟨rfl, hb⟩
        have HB8 : Below w.heap.size w w8 := by
          refine Below.trans ?_ (hb.mono ?_)
          · (repeat (first | exact HB7 | (refine bal ?_ _) | (refine below_drewN ?_ _) | (refine Below.drew ?_)))
          · first | omega | (simp <;> omega)
        have zs8 : w7.heap.size + 0 < w8.heap.size + 1 := by have := hb.size; (try simp at this); omega
        replace ka : w8.cell? ⟨w.heap.size, 0, none⟩ = some (.int .i64 n1) := (hb.cell (by first | omega | (simp <;> omega))).trans (by (simp (maxDischargeDepth := 8) [go_sem, World.cell?_alloc_past, ltk2, ltk3, ltk4, ltk5, ltk6, ltk7, ltk8, ltk9, *]))
        replace kb : w8.cell? ⟨w.heap.size, 1, none⟩ = some (.int .i64 d1) := (hb.cell (by first | omega | (simp <;> omega))).trans (by (simp (maxDischargeDepth := 8) [go_sem, World.cell?_alloc_past, ltk2, ltk3, ltk4, ltk5, ltk6, ltk7, ltk8, ltk9, *]))
        replace kc : w8.cell? ⟨w.heap.size + 1, 0, none⟩ = some (.int .i64 n2) := (hb.cell (by first | omega | (simp <;> omega))).trans (by (simp (maxDischargeDepth := 8) [go_sem, World.cell?_alloc_past, ltk2, ltk3, ltk4, ltk5, ltk6, ltk7, ltk8, ltk9, *]))
        replace kd : w8.cell? ⟨w.heap.size + 1, 1, none⟩ = some (.int .i64 d2) := (hb.cell (by first | omega | (simp <;> omega))).trans (by (simp (maxDischargeDepth := 8) [go_sem, World.cell?_alloc_past, ltk2, ltk3, ltk4, ltk5, ltk6, ltk7, ltk8, ltk9, *]))
        replace r6_0 : w8.cell? ⟨w6.heap.size, 0, none⟩ = some (.int .i64 v1) := (hb.cell (by first | omega | (simp <;> omega))).trans (by (simp (maxDischargeDepth := 8) [go_sem, World.cell?_alloc_past, ltk2, ltk3, ltk4, ltk5, ltk6, ltk7, ltk8, ltk9, *]))
        replace r6_1 : w8.cell? ⟨w6.heap.size, 1, none⟩ = some (.int .i64 v2) := (hb.cell (by first | omega | (simp <;> omega))).trans (by (simp (maxDischargeDepth := 8) [go_sem, World.cell?_alloc_past, ltk2, ltk3, ltk4, ltk5, ltk6, ltk7, ltk8, ltk9, *]))
        clear hb HB7
        have zy8 : w.heap.size < w8.heap.size := by omega
        have zx8 : w.heap.size + 1 < w8.heap.size := by omega
        have zz_w6_8 : w6.heap.size < w8.heap.size := by omega
        go_wp2_with fail
        refine (AA _).mono ?_
        rintro e w9 ⟨rfl, hb⟩
        have HB9 : Below w.heap.size w w9 := by
          refine Below.trans ?_ (hb.mono ?_)
          · (repeat (first | exact HB8 | (refine bal ?_ _) | (refine below_drewN ?_ _) | (refine Below.drew ?_)))
          · first | omega | (simp <;> omega)
        have zs9 : w8.heap.size + 1 < w9.heap.size + 1 := by have := hb.size; (try simp at this); omega
        replace ka : w9.cell? ⟨w.heap.size, 0, none⟩ = some (.int .i64 n1) := (hb.cell (by first | omega | (simp <;> omega))).trans (by (simp (maxDischargeDepth := 8) [go_sem, World.cell?_alloc_past, ltk2, ltk3, ltk4, ltk5, ltk6, ltk7, ltk8, ltk9, *]))
        replace kb : w9.cell? ⟨w.heap.size, 1, none⟩ = some (.int .i64 d1) := (hb.cell (by first | omega | (simp <;> omega))).trans (by (simp (maxDischargeDepth := 8) [go_sem, World.cell?_alloc_past, ltk2, ltk3, ltk4, ltk5, ltk6, ltk7, ltk8, ltk9, *]))
        replace kc : w9.cell? ⟨w.heap.size + 1, 0, none⟩ = some (.int .i64 n2) := (hb.cell (by first | omega | (simp <;> omega))).trans (by (simp (maxDischargeDepth := 8) [go_sem, World.cell?_alloc_past, ltk2, ltk3, ltk4, ltk5, ltk6, ltk7, ltk8, ltk9, *]))
        replace kd : w9.cell? ⟨w.heap.size + 1, 1, none⟩ = some (.int .i64 d2) := (hb.cell (by first | omega | (simp <;> omega))).trans (by (simp (maxDischargeDepth := 8) [go_sem, World.cell?_alloc_past, ltk2, ltk3, ltk4, ltk5, ltk6, ltk7, ltk8, ltk9, *]))
        replace r6_0 : w9.cell? ⟨w6.heap.size, 0, none⟩ = some (.int .i64 v1) := (hb.cell (by first | omega | (simp <;> omega))).trans (by (simp (maxDischargeDepth := 8) [go_sem, World.cell?_alloc_past, ltk2, ltk3, ltk4, ltk5, ltk6, ltk7, ltk8, ltk9, *]))
        replace r6_1 : w9.cell? ⟨w6.heap.size, 1, none⟩ = some (.int .i64 v2) := (hb.cell (by first | omega | (simp <;> omega))).trans (by (simp (maxDischargeDepth := 8) [go_sem, World.cell?_alloc_past, ltk2, ltk3, ltk4, ltk5, ltk6, ltk7, ltk8, ltk9, *]))
        have r8_0 : w9.cell? ⟨w8.heap.size, 0, none⟩ = some (.int .i64 q1) := (hb.cell (by first | omega | (simp <;> omega))).trans (by (simp (maxDischargeDepth := 8) [go_sem, World.cell?_alloc_past, ltk2, ltk3, ltk4, ltk5, ltk6, ltk7, ltk8, ltk9, *]))
        have r8_1 : w9.cell? ⟨w8.heap.size, 1, none⟩ = some (.int .i64 q2) := (hb.cell (by first | omega | (simp <;> omega))).trans (by (simp (maxDischargeDepth := 8) [go_sem, World.cell?_alloc_past, ltk2, ltk3, ltk4, ltk5, ltk6, ltk7, ltk8, ltk9, *]))
        clear hb HB8
        have zy9 : w.heap.size < w9.heap.size := by omega
        have zx9 : w.heap.size + 1 < w9.heap.size := by omega
        have zz_w6_9 : w6.heap.size < w9.heap.size := by omega
        have zz_w8_9 : w8.heap.size < w9.heap.size := by omega
        go_wp2_with fail
        go_ret
        exact ⟨rfl, by (repeat (first | with_reducible exact HB9 | (with_reducible refine bext ?_ _ _) | (with_reducible refine below_drewN ?_ _) | (with_reducible refine Below.drew ?_) | (with_reducible refine bal ?_ _) | (with_reducible refine bset ?_ (by first | omega | (simp <;> omega)) _)))⟩
end Go.Proofs.Ytbckjccbihnlnaa
