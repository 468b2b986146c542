/-
  The law on products, walked.
-/
import Derived.Test.YtbckjccbihnlnaaFxp
import Derived.Test.YtbckjccbihnlnaaFxr
import Derived.Test.YtbckjccbihnlnaaFnw
namespace Go.Proofs.Ytbckjccbihnlnaa
open Go.RowKit
set_option linter.unusedVariables false
set_option linter.unusedSimpArgs false

theorem mkE_bd8 (N D : Int) : 0 ≤ mkE N D ∧ mkE N D ≤ 18 := by unfold mkE; split <;> omega
theorem muE_bd (a b c d : Int) : 0 ≤ muE a b c d ∧ muE a b c d ≤ 18 := by
  unfold muE; split
  · exact mkE_bd8 _ _
  · omega
theorem dvE_bd (a b c d : Int) : 0 ≤ dvE a b c d ∧ dvE a b c d ≤ 18 := by
  unfold dvE; split
  · split
    · omega
    · exact mkE_bd8 _ _
  · omega
theorem maE_bd (a b : Int) : 0 ≤ maE a b ∧ maE a b ≤ 18 := by
  unfold maE bdE; split
  · omega
  · split <;> omega
theorem nearIs_bd {N D n P Q E : Int} (h : nearIs N D n P Q E) : 0 ≤ E ∧ E ≤ 18 := by
  unfold nearIs at h; split at h
  · split at h <;> omega
  · omega
theorem wrap18 {z : Int} (h : 0 ≤ z ∧ z ≤ 18) : IntKind.i64.wrap z = z := IntWalk.i64_in _ (by omega)

set_option maxRecDepth 100000 in
set_option maxHeartbeats 3200000 in
theorem products_walk (num den n1 d1 n2 d2 : Int) (g1 : -9223372036854775808 ≤ num) (g2 : num ≤ 9223372036854775807) (g3 : -9223372036854775808 ≤ den) (g4 : den ≤ 9223372036854775807)
    (a1 : -9223372036854775808 ≤ n1) (a2 : n1 ≤ 9223372036854775807) (a3 : -9223372036854775808 ≤ d1) (a4 : d1 ≤ 9223372036854775807)
    (c1 : -9223372036854775808 ≤ n2) (c2 : n2 ≤ 9223372036854775807) (c3 : -9223372036854775808 ≤ d2) (c4 : d2 ≤ 9223372036854775807) (w : World) :
    Calls Try.prog 3 #[.int .i64 num, .int .i64 den, .agg #[.int .i64 n1, .int .i64 d1], .agg #[.int .i64 n2, .int .i64 d2]] w fun e w' => e = .returned (.bool true) ∧ Below w.heap.size w w' := by
  have A1 := fun w => frac_Make num den g1 g2 g3 g4 w
  have A2 := fun w => ref_Make num den g1 g2 g3 g4 w
  have A3 := fun w => frac_Mul n1 d1 n2 d2 a1 a2 a3 a4 c1 c2 c3 c4 w
  have A4 := fun w => ref_Mul n1 d1 n2 d2 a1 a2 a3 a4 c1 c2 c3 c4 w
  have A5 := fun w => frac_Div n1 d1 n2 d2 a1 a2 a3 a4 c1 c2 c3 c4 w
  have A6 := fun w => ref_Div n1 d1 n2 d2 a1 a2 a3 a4 c1 c2 c3 c4 w
  have A7 := fun w => frac_Near n1 d1 num a1 a2 a3 a4 g1 g2 w
  have A8 := fun w => ref_Near n1 d1 num a1 a2 a3 a4 g1 g2 w
  have b1 := wrap18 (maE_bd num den)
  have b2 := wrap18 (muE_bd n1 d1 n2 d2)
  have b3 := wrap18 (dvE_bd n1 d1 n2 d2)
  generalize maN num den = x1 at *
  generalize maD num den = x2 at *
  generalize maE num den = x3 at *
  generalize muN n1 d1 n2 d2 = y1 at *
  generalize muD n1 d1 n2 d2 = y2 at *
  generalize muE n1 d1 n2 d2 = y3 at *
  generalize dvN n1 d1 n2 d2 = v1 at *
  generalize dvD n1 d1 n2 d2 = v2 at *
  generalize dvE n1 d1 n2 d2 = v3 at *
  clear g1 g2 g3 g4 a1 a2 a3 a4 c1 c2 c3 c4
  have dAl := dAl; have dSt := dSt; have xC := ext_cell; have xF := ext_frozen; have xS := ext_set; have xN := ext_drewN; have xD := ext_drew; have xL := ext_lt; have xE := ext_ne; have xG := ext_nr; have xX := ext_ext; have xL1 := ext_lt1; have xL2 := ext_lt2; have xL3 := ext_lt3; have xM0 := ext_le0; have xM1 := ext_le1; have xM2 := ext_le2
  go_enter Try.func3, Try.ntmps3
  go_wp2_with fail
  refine (A1 _).mono ?_
  rintro e w1 ⟨rfl, hb⟩
  have HB1 : Below w.heap.size w w1 := by
    refine Below.trans ?_ (hb.mono ?_)
    · (repeat (first | exact b0 _ | (refine bal ?_ _) | (refine below_drewN ?_ _) | (refine Below.drew ?_)))
    · first | omega | (simp <;> omega)
  have zs1 : w.heap.size + 2 < w1.heap.size + 1 := by have := hb.size; (try simp at this); omega
  have ka : w1.cell? ⟨w.heap.size, 0, none⟩ = some (.int .i64 n1) := (hb.cell (by first | omega | (simp <;> omega))).trans (by (simp (maxDischargeDepth := 8) [go_sem, World.cell?_alloc_past, ltk2, ltk3, ltk4, ltk5, ltk6, ltk7, ltk8, ltk9, *]))
  have kb : w1.cell? ⟨w.heap.size, 1, none⟩ = some (.int .i64 d1) := (hb.cell (by first | omega | (simp <;> omega))).trans (by (simp (maxDischargeDepth := 8) [go_sem, World.cell?_alloc_past, ltk2, ltk3, ltk4, ltk5, ltk6, ltk7, ltk8, ltk9, *]))
  have kc : w1.cell? ⟨w.heap.size + 1, 0, none⟩ = some (.int .i64 n2) := (hb.cell (by first | omega | (simp <;> omega))).trans (by (simp (maxDischargeDepth := 8) [go_sem, World.cell?_alloc_past, ltk2, ltk3, ltk4, ltk5, ltk6, ltk7, ltk8, ltk9, *]))
  have kd : w1.cell? ⟨w.heap.size + 1, 1, none⟩ = some (.int .i64 d2) := (hb.cell (by first | omega | (simp <;> omega))).trans (by (simp (maxDischargeDepth := 8) [go_sem, World.cell?_alloc_past, ltk2, ltk3, ltk4, ltk5, ltk6, ltk7, ltk8, ltk9, *]))
  clear hb
  have zy1 : w.heap.size < w1.heap.size := by omega
  have zx1 : w.heap.size + 1 < w1.heap.size := by omega
  go_wp2_with fail
  refine (A2 _).mono ?_
  rintro e w2 ⟨rfl, hb⟩
  have HB2 : Below w.heap.size w w2 := by
    refine Below.trans ?_ (hb.mono ?_)
    · (repeat (first | exact HB1 | (refine bal ?_ _) | (refine below_drewN ?_ _) | (refine Below.drew ?_)))
    · first | omega | (simp <;> omega)
  have zs2 : w1.heap.size + 1 < w2.heap.size + 1 := by have := hb.size; (try simp at this); omega
  replace ka : w2.cell? ⟨w.heap.size, 0, none⟩ = some (.int .i64 n1) := (hb.cell (by first | omega | (simp <;> omega))).trans (by (simp (maxDischargeDepth := 8) [go_sem, World.cell?_alloc_past, ltk2, ltk3, ltk4, ltk5, ltk6, ltk7, ltk8, ltk9, *]))
  replace kb : w2.cell? ⟨w.heap.size, 1, none⟩ = some (.int .i64 d1) := (hb.cell (by first | omega | (simp <;> omega))).trans (by (simp (maxDischargeDepth := 8) [go_sem, World.cell?_alloc_past, ltk2, ltk3, ltk4, ltk5, ltk6, ltk7, ltk8, ltk9, *]))
  replace kc : w2.cell? ⟨w.heap.size + 1, 0, none⟩ = some (.int .i64 n2) := (hb.cell (by first | omega | (simp <;> omega))).trans (by (simp (maxDischargeDepth := 8) [go_sem, World.cell?_alloc_past, ltk2, ltk3, ltk4, ltk5, ltk6, ltk7, ltk8, ltk9, *]))
  replace kd : w2.cell? ⟨w.heap.size + 1, 1, none⟩ = some (.int .i64 d2) := (hb.cell (by first | omega | (simp <;> omega))).trans (by (simp (maxDischargeDepth := 8) [go_sem, World.cell?_alloc_past, ltk2, ltk3, ltk4, ltk5, ltk6, ltk7, ltk8, ltk9, *]))
  have r1_0 : w2.cell? ⟨w1.heap.size, 0, none⟩ = some (.int .i64 x1) := (hb.cell (by first | omega | (simp <;> omega))).trans (by (simp (maxDischargeDepth := 8) [go_sem, World.cell?_alloc_past, ltk2, ltk3, ltk4, ltk5, ltk6, ltk7, ltk8, ltk9, *]))
  have r1_1 : w2.cell? ⟨w1.heap.size, 1, none⟩ = some (.int .i64 x2) := (hb.cell (by first | omega | (simp <;> omega))).trans (by (simp (maxDischargeDepth := 8) [go_sem, World.cell?_alloc_past, ltk2, ltk3, ltk4, ltk5, ltk6, ltk7, ltk8, ltk9, *]))
  clear hb HB1
  have zy2 : w.heap.size < w2.heap.size := by omega
  have zx2 : w.heap.size + 1 < w2.heap.size := by omega
  have zz_w1_2 : w1.heap.size < w2.heap.size := by omega
  go_wp2_with fail
  refine (A3 _).mono ?_
  rintro e w3 ⟨rfl, hb⟩
  have HB3 : Below w.heap.size w w3 := by
    refine Below.trans ?_ (hb.mono ?_)
    · (repeat (first | exact HB2 | (refine bal ?_ _) | (refine below_drewN ?_ _) | (refine Below.drew ?_)))
    · first | omega | (simp <;> omega)
  have zs3 : w2.heap.size + 1 < w3.heap.size + 1 := by have := hb.size; (try simp at this); omega
  replace ka : w3.cell? ⟨w.heap.size, 0, none⟩ = some (.int .i64 n1) := (hb.cell (by first | omega | (simp <;> omega))).trans (by (simp (maxDischargeDepth := 8) [go_sem, World.cell?_alloc_past, ltk2, ltk3, ltk4, ltk5, ltk6, ltk7, ltk8, ltk9, *]))
  replace kb : w3.cell? ⟨w.heap.size, 1, none⟩ = some (.int .i64 d1) := (hb.cell (by first | omega | (simp <;> omega))).trans (by (simp (maxDischargeDepth := 8) [go_sem, World.cell?_alloc_past, ltk2, ltk3, ltk4, ltk5, ltk6, ltk7, ltk8, ltk9, *]))
  replace kc : w3.cell? ⟨w.heap.size + 1, 0, none⟩ = some (.int .i64 n2) := (hb.cell (by first | omega | (simp <;> omega))).trans (by (simp (maxDischargeDepth := 8) [go_sem, World.cell?_alloc_past, ltk2, ltk3, ltk4, ltk5, ltk6, ltk7, ltk8, ltk9, *]))
  replace kd : w3.cell? ⟨w.heap.size + 1, 1, none⟩ = some (.int .i64 d2) := (hb.cell (by first | omega | (simp <;> omega))).trans (by (simp (maxDischargeDepth := 8) [go_sem, World.cell?_alloc_past, ltk2, ltk3, ltk4, ltk5, ltk6, ltk7, ltk8, ltk9, *]))
  replace r1_0 : w3.cell? ⟨w1.heap.size, 0, none⟩ = some (.int .i64 x1) := (hb.cell (by first | omega | (simp <;> omega))).trans (by (simp (maxDischargeDepth := 8) [go_sem, World.cell?_alloc_past, ltk2, ltk3, ltk4, ltk5, ltk6, ltk7, ltk8, ltk9, *]))
  replace r1_1 : w3.cell? ⟨w1.heap.size, 1, none⟩ = some (.int .i64 x2) := (hb.cell (by first | omega | (simp <;> omega))).trans (by (simp (maxDischargeDepth := 8) [go_sem, World.cell?_alloc_past, ltk2, ltk3, ltk4, ltk5, ltk6, ltk7, ltk8, ltk9, *]))
  have r2_0 : w3.cell? ⟨w2.heap.size, 0, none⟩ = some (.int .i64 x1) := (hb.cell (by first | omega | (simp <;> omega))).trans (by (simp (maxDischargeDepth := 8) [go_sem, World.cell?_alloc_past, ltk2, ltk3, ltk4, ltk5, ltk6, ltk7, ltk8, ltk9, *]))
  have r2_1 : w3.cell? ⟨w2.heap.size, 1, none⟩ = some (.int .i64 x2) := (hb.cell (by first | omega | (simp <;> omega))).trans (by (simp (maxDischargeDepth := 8) [go_sem, World.cell?_alloc_past, ltk2, ltk3, ltk4, ltk5, ltk6, ltk7, ltk8, ltk9, *]))
  clear hb HB2
  have zy3 : w.heap.size < w3.heap.size := by omega
  have zx3 : w.heap.size + 1 < w3.heap.size := by omega
  have zz_w1_3 : w1.heap.size < w3.heap.size := by omega
  have zz_w2_3 : w2.heap.size < w3.heap.size := by omega
  go_wp2_with fail
  refine (A4 _).mono ?_
  rintro e w4 ⟨rfl, hb⟩
  have HB4 : Below w.heap.size w w4 := by
    refine Below.trans ?_ (hb.mono ?_)
    · (repeat (first | exact HB3 | (refine bal ?_ _) | (refine below_drewN ?_ _) | (refine Below.drew ?_)))
    · first | omega | (simp <;> omega)
  have zs4 : w3.heap.size + 1 < w4.heap.size + 1 := by have := hb.size; (try simp at this); omega
  replace ka : w4.cell? ⟨w.heap.size, 0, none⟩ = some (.int .i64 n1) := (hb.cell (by first | omega | (simp <;> omega))).trans (by (simp (maxDischargeDepth := 8) [go_sem, World.cell?_alloc_past, ltk2, ltk3, ltk4, ltk5, ltk6, ltk7, ltk8, ltk9, *]))
  replace kb : w4.cell? ⟨w.heap.size, 1, none⟩ = some (.int .i64 d1) := (hb.cell (by first | omega | (simp <;> omega))).trans (by (simp (maxDischargeDepth := 8) [go_sem, World.cell?_alloc_past, ltk2, ltk3, ltk4, ltk5, ltk6, ltk7, ltk8, ltk9, *]))
  replace kc : w4.cell? ⟨w.heap.size + 1, 0, none⟩ = some (.int .i64 n2) := (hb.cell (by first | omega | (simp <;> omega))).trans (by (simp (maxDischargeDepth := 8) [go_sem, World.cell?_alloc_past, ltk2, ltk3, ltk4, ltk5, ltk6, ltk7, ltk8, ltk9, *]))
  replace kd : w4.cell? ⟨w.heap.size + 1, 1, none⟩ = some (.int .i64 d2) := (hb.cell (by first | omega | (simp <;> omega))).trans (by (simp (maxDischargeDepth := 8) [go_sem, World.cell?_alloc_past, ltk2, ltk3, ltk4, ltk5, ltk6, ltk7, ltk8, ltk9, *]))
  replace r1_0 : w4.cell? ⟨w1.heap.size, 0, none⟩ = some (.int .i64 x1) := (hb.cell (by first | omega | (simp <;> omega))).trans (by (simp (maxDischargeDepth := 8) [go_sem, World.cell?_alloc_past, ltk2, ltk3, ltk4, ltk5, ltk6, ltk7, ltk8, ltk9, *]))
  replace r1_1 : w4.cell? ⟨w1.heap.size, 1, none⟩ = some (.int .i64 x2) := (hb.cell (by first | omega | (simp <;> omega))).trans (by (simp (maxDischargeDepth := 8) [go_sem, World.cell?_alloc_past, ltk2, ltk3, ltk4, ltk5, ltk6, ltk7, ltk8, ltk9, *]))
  replace r2_0 : w4.cell? ⟨w2.heap.size, 0, none⟩ = some (.int .i64 x1) := (hb.cell (by first | omega | (simp <;> omega))).trans (by (simp (maxDischargeDepth := 8) [go_sem, World.cell?_alloc_past, ltk2, ltk3, ltk4, ltk5, ltk6, ltk7, ltk8, ltk9, *]))
  replace r2_1 : w4.cell? ⟨w2.heap.size, 1, none⟩ = some (.int .i64 x2) := (hb.cell (by first | omega | (simp <;> omega))).trans (by (simp (maxDischargeDepth := 8) [go_sem, World.cell?_alloc_past, ltk2, ltk3, ltk4, ltk5, ltk6, ltk7, ltk8, ltk9, *]))
  have r3_0 : w4.cell? ⟨w3.heap.size, 0, none⟩ = some (.int .i64 y1) := (hb.cell (by first | omega | (simp <;> omega))).trans (by (simp (maxDischargeDepth := 8) [go_sem, World.cell?_alloc_past, ltk2, ltk3, ltk4, ltk5, ltk6, ltk7, ltk8, ltk9, *]))
  have r3_1 : w4.cell? ⟨w3.heap.size, 1, none⟩ = some (.int .i64 y2) := (hb.cell (by first | omega | (simp <;> omega))).trans (by (simp (maxDischargeDepth := 8) [go_sem, World.cell?_alloc_past, ltk2, ltk3, ltk4, ltk5, ltk6, ltk7, ltk8, ltk9, *]))
  clear hb HB3
  have zy4 : w.heap.size < w4.heap.size := by omega
  have zx4 : w.heap.size + 1 < w4.heap.size := by omega
  have zz_w1_4 : w1.heap.size < w4.heap.size := by omega
  have zz_w2_4 : w2.heap.size < w4.heap.size := by omega
  have zz_w3_4 : w3.heap.size < w4.heap.size := by omega
  go_wp2_with fail
  refine (A5 _).mono ?_
  rintro e w5 ⟨rfl, hb⟩
  have HB5 : Below w.heap.size w w5 := by
    refine Below.trans ?_ (hb.mono ?_)
    · (repeat (first | exact HB4 | (refine bal ?_ _) | (refine below_drewN ?_ _) | (refine Below.drew ?_)))
    · first | omega | (simp <;> omega)
  have zs5 : w4.heap.size + 1 < w5.heap.size + 1 := by have := hb.size; (try simp at this); omega
  replace ka : w5.cell? ⟨w.heap.size, 0, none⟩ = some (.int .i64 n1) := (hb.cell (by first | omega | (simp <;> omega))).trans (by (simp (maxDischargeDepth := 8) [go_sem, World.cell?_alloc_past, ltk2, ltk3, ltk4, ltk5, ltk6, ltk7, ltk8, ltk9, *]))
  replace kb : w5.cell? ⟨w.heap.size, 1, none⟩ = some (.int .i64 d1) := (hb.cell (by first | omega | (simp <;> omega))).trans (by (simp (maxDischargeDepth := 8) [go_sem, World.cell?_alloc_past, ltk2, ltk3, ltk4, ltk5, ltk6, ltk7, ltk8, ltk9, *]))
  replace kc : w5.cell? ⟨w.heap.size + 1, 0, none⟩ = some (.int .i64 n2) := (hb.cell (by first | omega | (simp <;> omega))).trans (by (simp (maxDischargeDepth := 8) [go_sem, World.cell?_alloc_past, ltk2, ltk3, ltk4, ltk5, ltk6, ltk7, ltk8, ltk9, *]))
  replace kd : w5.cell? ⟨w.heap.size + 1, 1, none⟩ = some (.int .i64 d2) := (hb.cell (by first | omega | (simp <;> omega))).trans (by (simp (maxDischargeDepth := 8) [go_sem, World.cell?_alloc_past, ltk2, ltk3, ltk4, ltk5, ltk6, ltk7, ltk8, ltk9, *]))
  replace r1_0 : w5.cell? ⟨w1.heap.size, 0, none⟩ = some (.int .i64 x1) := (hb.cell (by first | omega | (simp <;> omega))).trans (by (simp (maxDischargeDepth := 8) [go_sem, World.cell?_alloc_past, ltk2, ltk3, ltk4, ltk5, ltk6, ltk7, ltk8, ltk9, *]))
  replace r1_1 : w5.cell? ⟨w1.heap.size, 1, none⟩ = some (.int .i64 x2) := (hb.cell (by first | omega | (simp <;> omega))).trans (by (simp (maxDischargeDepth := 8) [go_sem, World.cell?_alloc_past, ltk2, ltk3, ltk4, ltk5, ltk6, ltk7, ltk8, ltk9, *]))
  replace r2_0 : w5.cell? ⟨w2.heap.size, 0, none⟩ = some (.int .i64 x1) := (hb.cell (by first | omega | (simp <;> omega))).trans (by (simp (maxDischargeDepth := 8) [go_sem, World.cell?_alloc_past, ltk2, ltk3, ltk4, ltk5, ltk6, ltk7, ltk8, ltk9, *]))
  replace r2_1 : w5.cell? ⟨w2.heap.size, 1, none⟩ = some (.int .i64 x2) := (hb.cell (by first | omega | (simp <;> omega))).trans (by (simp (maxDischargeDepth := 8) [go_sem, World.cell?_alloc_past, ltk2, ltk3, ltk4, ltk5, ltk6, ltk7, ltk8, ltk9, *]))
  replace r3_0 : w5.cell? ⟨w3.heap.size, 0, none⟩ = some (.int .i64 y1) := (hb.cell (by first | omega | (simp <;> omega))).trans (by (simp (maxDischargeDepth := 8) [go_sem, World.cell?_alloc_past, ltk2, ltk3, ltk4, ltk5, ltk6, ltk7, ltk8, ltk9, *]))
  replace r3_1 : w5.cell? ⟨w3.heap.size, 1, none⟩ = some (.int .i64 y2) := (hb.cell (by first | omega | (simp <;> omega))).trans (by (simp (maxDischargeDepth := 8) [go_sem, World.cell?_alloc_past, ltk2, ltk3, ltk4, ltk5, ltk6, ltk7, ltk8, ltk9, *]))
  have r4_0 : w5.cell? ⟨w4.heap.size, 0, none⟩ = some (.int .i64 y1) := (hb.cell (by first | omega | (simp <;> omega))).trans (by (simp (maxDischargeDepth := 8) [go_sem, World.cell?_alloc_past, ltk2, ltk3, ltk4, ltk5, ltk6, ltk7, ltk8, ltk9, *]))
  have r4_1 : w5.cell? ⟨w4.heap.size, 1, none⟩ = some (.int .i64 y2) := (hb.cell (by first | omega | (simp <;> omega))).trans (by (simp (maxDischargeDepth := 8) [go_sem, World.cell?_alloc_past, ltk2, ltk3, ltk4, ltk5, ltk6, ltk7, ltk8, ltk9, *]))
  clear hb HB4
  have zy5 : w.heap.size < w5.heap.size := by omega
  have zx5 : w.heap.size + 1 < w5.heap.size := by omega
  have zz_w1_5 : w1.heap.size < w5.heap.size := by omega
  have zz_w2_5 : w2.heap.size < w5.heap.size := by omega
  have zz_w3_5 : w3.heap.size < w5.heap.size := by omega
  have zz_w4_5 : w4.heap.size < w5.heap.size := by omega
  go_wp2_with fail
  refine (A6 _).mono ?_
  rintro e w6 ⟨rfl, hb⟩
  have HB6 : Below w.heap.size w w6 := by
    refine Below.trans ?_ (hb.mono ?_)
    · (repeat (first | exact HB5 | (refine bal ?_ _) | (refine below_drewN ?_ _) | (refine Below.drew ?_)))
    · first | omega | (simp <;> omega)
  have zs6 : w5.heap.size + 1 < w6.heap.size + 1 := by have := hb.size; (try simp at this); omega
  replace ka : w6.cell? ⟨w.heap.size, 0, none⟩ = some (.int .i64 n1) := (hb.cell (by first | omega | (simp <;> omega))).trans (by (simp (maxDischargeDepth := 8) [go_sem, World.cell?_alloc_past, ltk2, ltk3, ltk4, ltk5, ltk6, ltk7, ltk8, ltk9, *]))
  replace kb : w6.cell? ⟨w.heap.size, 1, none⟩ = some (.int .i64 d1) := (hb.cell (by first | omega | (simp <;> omega))).trans (by (simp (maxDischargeDepth := 8) [go_sem, World.cell?_alloc_past, ltk2, ltk3, ltk4, ltk5, ltk6, ltk7, ltk8, ltk9, *]))
  replace kc : w6.cell? ⟨w.heap.size + 1, 0, none⟩ = some (.int .i64 n2) := (hb.cell (by first | omega | (simp <;> omega))).trans (by (simp (maxDischargeDepth := 8) [go_sem, World.cell?_alloc_past, ltk2, ltk3, ltk4, ltk5, ltk6, ltk7, ltk8, ltk9, *]))
  replace kd : w6.cell? ⟨w.heap.size + 1, 1, none⟩ = some (.int .i64 d2) := (hb.cell (by first | omega | (simp <;> omega))).trans (by (simp (maxDischargeDepth := 8) [go_sem, World.cell?_alloc_past, ltk2, ltk3, ltk4, ltk5, ltk6, ltk7, ltk8, ltk9, *]))
  replace r1_0 : w6.cell? ⟨w1.heap.size, 0, none⟩ = some (.int .i64 x1) := (hb.cell (by first | omega | (simp <;> omega))).trans (by (simp (maxDischargeDepth := 8) [go_sem, World.cell?_alloc_past, ltk2, ltk3, ltk4, ltk5, ltk6, ltk7, ltk8, ltk9, *]))
  replace r1_1 : w6.cell? ⟨w1.heap.size, 1, none⟩ = some (.int .i64 x2) := (hb.cell (by first | omega | (simp <;> omega))).trans (by (simp (maxDischargeDepth := 8) [go_sem, World.cell?_alloc_past, ltk2, ltk3, ltk4, ltk5, ltk6, ltk7, ltk8, ltk9, *]))
  replace r2_0 : w6.cell? ⟨w2.heap.size, 0, none⟩ = some (.int .i64 x1) := (hb.cell (by first | omega | (simp <;> omega))).trans (by (simp (maxDischargeDepth := 8) [go_sem, World.cell?_alloc_past, ltk2, ltk3, ltk4, ltk5, ltk6, ltk7, ltk8, ltk9, *]))
  replace r2_1 : w6.cell? ⟨w2.heap.size, 1, none⟩ = some (.int .i64 x2) := (hb.cell (by first | omega | (simp <;> omega))).trans (by (simp (maxDischargeDepth := 8) [go_sem, World.cell?_alloc_past, ltk2, ltk3, ltk4, ltk5, ltk6, ltk7, ltk8, ltk9, *]))
  replace r3_0 : w6.cell? ⟨w3.heap.size, 0, none⟩ = some (.int .i64 y1) := (hb.cell (by first | omega | (simp <;> omega))).trans (by (simp (maxDischargeDepth := 8) [go_sem, World.cell?_alloc_past, ltk2, ltk3, ltk4, ltk5, ltk6, ltk7, ltk8, ltk9, *]))
  replace r3_1 : w6.cell? ⟨w3.heap.size, 1, none⟩ = some (.int .i64 y2) := (hb.cell (by first | omega | (simp <;> omega))).trans (by (simp (maxDischargeDepth := 8) [go_sem, World.cell?_alloc_past, ltk2, ltk3, ltk4, ltk5, ltk6, ltk7, ltk8, ltk9, *]))
  replace r4_0 : w6.cell? ⟨w4.heap.size, 0, none⟩ = some (.int .i64 y1) := (hb.cell (by first | omega | (simp <;> omega))).trans (by (simp (maxDischargeDepth := 8) [go_sem, World.cell?_alloc_past, ltk2, ltk3, ltk4, ltk5, ltk6, ltk7, ltk8, ltk9, *]))
  replace r4_1 : w6.cell? ⟨w4.heap.size, 1, none⟩ = some (.int .i64 y2) := (hb.cell (by first | omega | (simp <;> omega))).trans (by (simp (maxDischargeDepth := 8) [go_sem, World.cell?_alloc_past, ltk2, ltk3, ltk4, ltk5, ltk6, ltk7, ltk8, ltk9, *]))
  have r5_0 : w6.cell? ⟨w5.heap.size, 0, none⟩ = some (.int .i64 v1) := (hb.cell (by first | omega | (simp <;> omega))).trans (by (simp (maxDischargeDepth := 8) [go_sem, World.cell?_alloc_past, ltk2, ltk3, ltk4, ltk5, ltk6, ltk7, ltk8, ltk9, *]))
  have r5_1 : w6.cell? ⟨w5.heap.size, 1, none⟩ = some (.int .i64 v2) := (hb.cell (by first | omega | (simp <;> omega))).trans (by (simp (maxDischargeDepth := 8) [go_sem, World.cell?_alloc_past, ltk2, ltk3, ltk4, ltk5, ltk6, ltk7, ltk8, ltk9, *]))
  clear hb HB5
  have zy6 : w.heap.size < w6.heap.size := by omega
  have zx6 : w.heap.size + 1 < w6.heap.size := by omega
  have zz_w1_6 : w1.heap.size < w6.heap.size := by omega
  have zz_w2_6 : w2.heap.size < w6.heap.size := by omega
  have zz_w3_6 : w3.heap.size < w6.heap.size := by omega
  have zz_w4_6 : w4.heap.size < w6.heap.size := by omega
  have zz_w5_6 : w5.heap.size < w6.heap.size := by omega
  go_wp2_with fail
  refine (A7 _).mono ?_
  rintro e w7 ⟨P, Q, E, hN1, rfl, hb⟩
  have b4 := wrap18 (nearIs_bd hN1); have HN := Lib.hid hN1; clear hN1
  have HB7 : Below w.heap.size w w7 := by
    refine Below.trans ?_ (hb.mono ?_)
    · (repeat (first | exact HB6 | (refine bal ?_ _) | (refine below_drewN ?_ _) | (refine Below.drew ?_)))
    · first | omega | (simp <;> omega)
  have zs7 : w6.heap.size + 1 < w7.heap.size + 1 := by have := hb.size; (try simp at this); omega
  replace ka : w7.cell? ⟨w.heap.size, 0, none⟩ = some (.int .i64 n1) := (hb.cell (by first | omega | (simp <;> omega))).trans (by (simp (maxDischargeDepth := 8) [go_sem, World.cell?_alloc_past, ltk2, ltk3, ltk4, ltk5, ltk6, ltk7, ltk8, ltk9, *]))
  replace kb : w7.cell? ⟨w.heap.size, 1, none⟩ = some (.int .i64 d1) := (hb.cell (by first | omega | (simp <;> omega))).trans (by (simp (maxDischargeDepth := 8) [go_sem, World.cell?_alloc_past, ltk2, ltk3, ltk4, ltk5, ltk6, ltk7, ltk8, ltk9, *]))
  replace kc : w7.cell? ⟨w.heap.size + 1, 0, none⟩ = some (.int .i64 n2) := (hb.cell (by first | omega | (simp <;> omega))).trans (by (simp (maxDischargeDepth := 8) [go_sem, World.cell?_alloc_past, ltk2, ltk3, ltk4, ltk5, ltk6, ltk7, ltk8, ltk9, *]))
  replace kd : w7.cell? ⟨w.heap.size + 1, 1, none⟩ = some (.int .i64 d2) := (hb.cell (by first | omega | (simp <;> omega))).trans (by (simp (maxDischargeDepth := 8) [go_sem, World.cell?_alloc_past, ltk2, ltk3, ltk4, ltk5, ltk6, ltk7, ltk8, ltk9, *]))
  replace r1_0 : w7.cell? ⟨w1.heap.size, 0, none⟩ = some (.int .i64 x1) := (hb.cell (by first | omega | (simp <;> omega))).trans (by (simp (maxDischargeDepth := 8) [go_sem, World.cell?_alloc_past, ltk2, ltk3, ltk4, ltk5, ltk6, ltk7, ltk8, ltk9, *]))
  replace r1_1 : w7.cell? ⟨w1.heap.size, 1, none⟩ = some (.int .i64 x2) := (hb.cell (by first | omega | (simp <;> omega))).trans (by (simp (maxDischargeDepth := 8) [go_sem, World.cell?_alloc_past, ltk2, ltk3, ltk4, ltk5, ltk6, ltk7, ltk8, ltk9, *]))
  replace r2_0 : w7.cell? ⟨w2.heap.size, 0, none⟩ = some (.int .i64 x1) := (hb.cell (by first | omega | (simp <;> omega))).trans (by (simp (maxDischargeDepth := 8) [go_sem, World.cell?_alloc_past, ltk2, ltk3, ltk4, ltk5, ltk6, ltk7, ltk8, ltk9, *]))
  replace r2_1 : w7.cell? ⟨w2.heap.size, 1, none⟩ = some (.int .i64 x2) := (hb.cell (by first | omega | (simp <;> omega))).trans (by (simp (maxDischargeDepth := 8) [go_sem, World.cell?_alloc_past, ltk2, ltk3, ltk4, ltk5, ltk6, ltk7, ltk8, ltk9, *]))
  replace r3_0 : w7.cell? ⟨w3.heap.size, 0, none⟩ = some (.int .i64 y1) := (hb.cell (by first | omega | (simp <;> omega))).trans (by (simp (maxDischargeDepth := 8) [go_sem, World.cell?_alloc_past, ltk2, ltk3, ltk4, ltk5, ltk6, ltk7, ltk8, ltk9, *]))
  replace r3_1 : w7.cell? ⟨w3.heap.size, 1, none⟩ = some (.int .i64 y2) := (hb.cell (by first | omega | (simp <;> omega))).trans (by (simp (maxDischargeDepth := 8) [go_sem, World.cell?_alloc_past, ltk2, ltk3, ltk4, ltk5, ltk6, ltk7, ltk8, ltk9, *]))
  replace r4_0 : w7.cell? ⟨w4.heap.size, 0, none⟩ = some (.int .i64 y1) := (hb.cell (by first | omega | (simp <;> omega))).trans (by (simp (maxDischargeDepth := 8) [go_sem, World.cell?_alloc_past, ltk2, ltk3, ltk4, ltk5, ltk6, ltk7, ltk8, ltk9, *]))
  replace r4_1 : w7.cell? ⟨w4.heap.size, 1, none⟩ = some (.int .i64 y2) := (hb.cell (by first | omega | (simp <;> omega))).trans (by (simp (maxDischargeDepth := 8) [go_sem, World.cell?_alloc_past, ltk2, ltk3, ltk4, ltk5, ltk6, ltk7, ltk8, ltk9, *]))
  replace r5_0 : w7.cell? ⟨w5.heap.size, 0, none⟩ = some (.int .i64 v1) := (hb.cell (by first | omega | (simp <;> omega))).trans (by (simp (maxDischargeDepth := 8) [go_sem, World.cell?_alloc_past, ltk2, ltk3, ltk4, ltk5, ltk6, ltk7, ltk8, ltk9, *]))
  replace r5_1 : w7.cell? ⟨w5.heap.size, 1, none⟩ = some (.int .i64 v2) := (hb.cell (by first | omega | (simp <;> omega))).trans (by (simp (maxDischargeDepth := 8) [go_sem, World.cell?_alloc_past, ltk2, ltk3, ltk4, ltk5, ltk6, ltk7, ltk8, ltk9, *]))
  have r6_0 : w7.cell? ⟨w6.heap.size, 0, none⟩ = some (.int .i64 v1) := (hb.cell (by first | omega | (simp <;> omega))).trans (by (simp (maxDischargeDepth := 8) [go_sem, World.cell?_alloc_past, ltk2, ltk3, ltk4, ltk5, ltk6, ltk7, ltk8, ltk9, *]))
  have r6_1 : w7.cell? ⟨w6.heap.size, 1, none⟩ = some (.int .i64 v2) := (hb.cell (by first | omega | (simp <;> omega))).trans (by (simp (maxDischargeDepth := 8) [go_sem, World.cell?_alloc_past, ltk2, ltk3, ltk4, ltk5, ltk6, ltk7, ltk8, ltk9, *]))
  clear hb HB6
  have zy7 : w.heap.size < w7.heap.size := by omega
  have zx7 : w.heap.size + 1 < w7.heap.size := by omega
  have zz_w1_7 : w1.heap.size < w7.heap.size := by omega
  have zz_w2_7 : w2.heap.size < w7.heap.size := by omega
  have zz_w3_7 : w3.heap.size < w7.heap.size := by omega
  have zz_w4_7 : w4.heap.size < w7.heap.size := by omega
  have zz_w5_7 : w5.heap.size < w7.heap.size := by omega
  have zz_w6_7 : w6.heap.size < w7.heap.size := by omega
  go_wp2_with fail
  refine (A8 _).mono ?_
  rintro e w8 ⟨P2, Q2, E2, hN2, rfl, hb⟩
  obtain ⟨rfl, rfl, rfl⟩ := nearIs_unique HN.out hN2; clear hN2 HN
  have HB8 : Below w.heap.size w w8 := by
    refine Below.trans ?_ (hb.mono ?_)
    · (repeat (first | exact HB7 | (refine bal ?_ _) | (refine below_drewN ?_ _) | (refine Below.drew ?_)))
    · first | omega | (simp <;> omega)
  have zs8 : w7.heap.size + 1 < w8.heap.size + 1 := by have := hb.size; (try simp at this); omega
  replace ka : w8.cell? ⟨w.heap.size, 0, none⟩ = some (.int .i64 n1) := (hb.cell (by first | omega | (simp <;> omega))).trans (by (simp (maxDischargeDepth := 8) [go_sem, World.cell?_alloc_past, ltk2, ltk3, ltk4, ltk5, ltk6, ltk7, ltk8, ltk9, *]))
  replace kb : w8.cell? ⟨w.heap.size, 1, none⟩ = some (.int .i64 d1) := (hb.cell (by first | omega | (simp <;> omega))).trans (by (simp (maxDischargeDepth := 8) [go_sem, World.cell?_alloc_past, ltk2, ltk3, ltk4, ltk5, ltk6, ltk7, ltk8, ltk9, *]))
  replace kc : w8.cell? ⟨w.heap.size + 1, 0, none⟩ = some (.int .i64 n2) := (hb.cell (by first | omega | (simp <;> omega))).trans (by (simp (maxDischargeDepth := 8) [go_sem, World.cell?_alloc_past, ltk2, ltk3, ltk4, ltk5, ltk6, ltk7, ltk8, ltk9, *]))
  replace kd : w8.cell? ⟨w.heap.size + 1, 1, none⟩ = some (.int .i64 d2) := (hb.cell (by first | omega | (simp <;> omega))).trans (by (simp (maxDischargeDepth := 8) [go_sem, World.cell?_alloc_past, ltk2, ltk3, ltk4, ltk5, ltk6, ltk7, ltk8, ltk9, *]))
  replace r1_0 : w8.cell? ⟨w1.heap.size, 0, none⟩ = some (.int .i64 x1) := (hb.cell (by first | omega | (simp <;> omega))).trans (by (simp (maxDischargeDepth := 8) [go_sem, World.cell?_alloc_past, ltk2, ltk3, ltk4, ltk5, ltk6, ltk7, ltk8, ltk9, *]))
  replace r1_1 : w8.cell? ⟨w1.heap.size, 1, none⟩ = some (.int .i64 x2) := (hb.cell (by first | omega | (simp <;> omega))).trans (by (simp (maxDischargeDepth := 8) [go_sem, World.cell?_alloc_past, ltk2, ltk3, ltk4, ltk5, ltk6, ltk7, ltk8, ltk9, *]))
  replace r2_0 : w8.cell? ⟨w2.heap.size, 0, none⟩ = some (.int .i64 x1) := (hb.cell (by first | omega | (simp <;> omega))).trans (by (simp (maxDischargeDepth := 8) [go_sem, World.cell?_alloc_past, ltk2, ltk3, ltk4, ltk5, ltk6, ltk7, ltk8, ltk9, *]))
  replace r2_1 : w8.cell? ⟨w2.heap.size, 1, none⟩ = some (.int .i64 x2) := (hb.cell (by first | omega | (simp <;> omega))).trans (by (simp (maxDischargeDepth := 8) [go_sem, World.cell?_alloc_past, ltk2, ltk3, ltk4, ltk5, ltk6, ltk7, ltk8, ltk9, *]))
  replace r3_0 : w8.cell? ⟨w3.heap.size, 0, none⟩ = some (.int .i64 y1) := (hb.cell (by first | omega | (simp <;> omega))).trans (by (simp (maxDischargeDepth := 8) [go_sem, World.cell?_alloc_past, ltk2, ltk3, ltk4, ltk5, ltk6, ltk7, ltk8, ltk9, *]))
  replace r3_1 : w8.cell? ⟨w3.heap.size, 1, none⟩ = some (.int .i64 y2) := (hb.cell (by first | omega | (simp <;> omega))).trans (by (simp (maxDischargeDepth := 8) [go_sem, World.cell?_alloc_past, ltk2, ltk3, ltk4, ltk5, ltk6, ltk7, ltk8, ltk9, *]))
  replace r4_0 : w8.cell? ⟨w4.heap.size, 0, none⟩ = some (.int .i64 y1) := (hb.cell (by first | omega | (simp <;> omega))).trans (by (simp (maxDischargeDepth := 8) [go_sem, World.cell?_alloc_past, ltk2, ltk3, ltk4, ltk5, ltk6, ltk7, ltk8, ltk9, *]))
  replace r4_1 : w8.cell? ⟨w4.heap.size, 1, none⟩ = some (.int .i64 y2) := (hb.cell (by first | omega | (simp <;> omega))).trans (by (simp (maxDischargeDepth := 8) [go_sem, World.cell?_alloc_past, ltk2, ltk3, ltk4, ltk5, ltk6, ltk7, ltk8, ltk9, *]))
  replace r5_0 : w8.cell? ⟨w5.heap.size, 0, none⟩ = some (.int .i64 v1) := (hb.cell (by first | omega | (simp <;> omega))).trans (by (simp (maxDischargeDepth := 8) [go_sem, World.cell?_alloc_past, ltk2, ltk3, ltk4, ltk5, ltk6, ltk7, ltk8, ltk9, *]))
  replace r5_1 : w8.cell? ⟨w5.heap.size, 1, none⟩ = some (.int .i64 v2) := (hb.cell (by first | omega | (simp <;> omega))).trans (by (simp (maxDischargeDepth := 8) [go_sem, World.cell?_alloc_past, ltk2, ltk3, ltk4, ltk5, ltk6, ltk7, ltk8, ltk9, *]))
  replace r6_0 : w8.cell? ⟨w6.heap.size, 0, none⟩ = some (.int .i64 v1) := (hb.cell (by first | omega | (simp <;> omega))).trans (by (simp (maxDischargeDepth := 8) [go_sem, World.cell?_alloc_past, ltk2, ltk3, ltk4, ltk5, ltk6, ltk7, ltk8, ltk9, *]))
  replace r6_1 : w8.cell? ⟨w6.heap.size, 1, none⟩ = some (.int .i64 v2) := (hb.cell (by first | omega | (simp <;> omega))).trans (by (simp (maxDischargeDepth := 8) [go_sem, World.cell?_alloc_past, ltk2, ltk3, ltk4, ltk5, ltk6, ltk7, ltk8, ltk9, *]))
  have r7_0 : w8.cell? ⟨w7.heap.size, 0, none⟩ = some (.int .i64 P) := (hb.cell (by first | omega | (simp <;> omega))).trans (by (simp (maxDischargeDepth := 8) [go_sem, World.cell?_alloc_past, ltk2, ltk3, ltk4, ltk5, ltk6, ltk7, ltk8, ltk9, *]))
  have r7_1 : w8.cell? ⟨w7.heap.size, 1, none⟩ = some (.int .i64 Q) := (hb.cell (by first | omega | (simp <;> omega))).trans (by (simp (maxDischargeDepth := 8) [go_sem, World.cell?_alloc_past, ltk2, ltk3, ltk4, ltk5, ltk6, ltk7, ltk8, ltk9, *]))
  clear hb HB7
  have zy8 : w.heap.size < w8.heap.size := by omega
  have zx8 : w.heap.size + 1 < w8.heap.size := by omega
  have zz_w1_8 : w1.heap.size < w8.heap.size := by omega
  have zz_w2_8 : w2.heap.size < w8.heap.size := by omega
  have zz_w3_8 : w3.heap.size < w8.heap.size := by omega
  have zz_w4_8 : w4.heap.size < w8.heap.size := by omega
  have zz_w5_8 : w5.heap.size < w8.heap.size := by omega
  have zz_w6_8 : w6.heap.size < w8.heap.size := by omega
  have zz_w7_8 : w7.heap.size < w8.heap.size := by omega
  clear A1 A2 A3 A4 A5 A6 A7 A8
  go_wp2_with fail
  go_ret
  exact ⟨rfl, by (repeat (first | with_reducible exact HB8 | (with_reducible refine bext ?_ _ _) | (with_reducible refine below_drewN ?_ _) | (with_reducible refine Below.drew ?_) | (with_reducible refine bal ?_ _) | (with_reducible refine bset ?_ (by first | omega | (simp <;> omega)) _)))⟩
end Go.Proofs.Ytbckjccbihnlnaa
