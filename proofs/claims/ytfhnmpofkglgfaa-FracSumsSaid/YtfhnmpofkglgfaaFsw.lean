/-
  The law on sums, walked.
-/
import Derived.Test.YtfhnmpofkglgfaaFx
import Derived.Test.YtfhnmpofkglgfaaFc
import Derived.Test.YtfhnmpofkglgfaaFyz
namespace Go.Proofs.Ytfhnmpofkglgfaa
open Go.RowKit
set_option linter.unusedVariables false
set_option linter.unusedSimpArgs false

theorem mkE_bd (N D : Int) : 0 ≤ mkE N D ∧ mkE N D ≤ 16 := by unfold mkE; split <;> omega
theorem adE_bd (a b c d : Int) : 0 ≤ adE a b c d ∧ adE a b c d ≤ 16 := by
  unfold adE; split
  · exact mkE_bd _ _
  · omega
theorem chkI_bd (n d : Int) : 0 ≤ chkI n d ∧ chkI n d ≤ 16 := by unfold chkI; split <;> omega
theorem chk2_bd (n d a b : Int) : 0 ≤ chk2 n d a b ∧ chk2 n d a b ≤ 16 := by
  unfold chk2; split
  · exact chkI_bd _ _
  · omega
theorem wrap16 {z : Int} (h : 0 ≤ z ∧ z ≤ 16) : IntKind.i64.wrap z = z := IntWalk.i64_in _ (by omega)

set_option maxRecDepth 100000 in
set_option maxHeartbeats 3200000 in
theorem sums_walk (n1 d1 n2 d2 : Int) (a1 : -9223372036854775808 ≤ n1) (a2 : n1 ≤ 9223372036854775807) (a3 : -9223372036854775808 ≤ d1) (a4 : d1 ≤ 9223372036854775807)
    (c1 : -9223372036854775808 ≤ n2) (c2 : n2 ≤ 9223372036854775807) (c3 : -9223372036854775808 ≤ d2) (c4 : d2 ≤ 9223372036854775807) (w : World) :
    Calls Try.prog 3 #[.agg #[.int .i64 n1, .int .i64 d1], .agg #[.int .i64 n2, .int .i64 d2]] w fun e w' => e = .returned (.bool true) ∧ Below w.heap.size w w' := by
  have A1 := fun w => frac_Add n1 d1 n2 d2 a1 a2 a3 a4 c1 c2 c3 c4 w
  have A2 := fun w => ref_Add n1 d1 n2 d2 a1 a2 a3 a4 c1 c2 c3 c4 w
  have A3 := fun w => frac_Sub n1 d1 n2 d2 a1 a2 a3 a4 c1 c2 c3 c4 w
  have A4 := fun w => ref_Sub n1 d1 n2 d2 a1 a2 a3 a4 c1 c2 c3 c4 w
  have A5 := fun w => frac_Cmp n1 d1 n2 d2 a1 a2 a3 a4 c1 c2 c3 c4 w
  have A6 := fun w => ref_Cmp n1 d1 n2 d2 a1 a2 a3 a4 c1 c2 c3 c4 w
  have A7 := fun w => frac_Floor n1 d1 a1 a2 a3 a4 w
  have A8 := fun w => ref_Floor n1 d1 a1 a2 a3 a4 w
  have A9 := fun w => frac_Check n1 d1 a1 a2 a3 a4 w
  have A0 := fun w => ref_Check n1 d1 a1 a2 a3 a4 w
  have b1 := wrap16 (adE_bd n1 d1 n2 d2)
  have b2 := wrap16 (adE_bd n1 d1 (-n2) d2)
  have b3 := wrap16 (chk2_bd n1 d1 n2 d2)
  have b4 := wrap16 (chkI_bd n1 d1)
  generalize adN n1 d1 n2 d2 = x1 at *
  generalize adD n1 d1 n2 d2 = x2 at *
  generalize adE n1 d1 n2 d2 = x3 at *
  generalize adN n1 d1 (-n2) d2 = y1 at *
  generalize adD n1 d1 (-n2) d2 = y2 at *
  generalize adE n1 d1 (-n2) d2 = y3 at *
  generalize coV n1 d1 n2 d2 = u1 at *
  generalize chk2 n1 d1 n2 d2 = u2 at *
  generalize flV n1 d1 = v1 at *
  generalize chkI n1 d1 = v2 at *
  clear a1 a2 a3 a4 c1 c2 c3 c4
  have dAl := dAl; have dSt := dSt; have xC := ext_cell; have xF := ext_frozen; have xS := ext_set; have xN := ext_drewN; have xD := ext_drew; have xL := ext_lt; have xE := ext_ne; have xG := ext_nr; have xX := ext_ext; have xL1 := ext_lt1; have xL2 := ext_lt2; have xL3 := ext_lt3; have xM0 := ext_le0; have xM1 := ext_le1; have xM2 := ext_le2
  go_enter Try.func3, Try.ntmps3
  go_wp2_with fail
  refine (A1 _).mono ?_
  rintro e w1 ⟨rfl, hb⟩
  have HB1 : Below w.heap.size w w1 := by
    refine Below.trans ?_ (hb.mono ?_)
    · (repeat (first | exact b0 _ | (refine bal ?_ _) | (refine below_drewN ?_ _) | (refine Below.drew ?_)))
    · first | omega | (simp <;> omega)
  have zs1 : w.heap.size + 2 < w1.heap.size + 1 := by have := hb.size; (try simp at this); omega
  have ka : w1.cell? ⟨w.heap.size, 0, none⟩ = some (.int .i64 n1) := (hb.cell (by first | omega | (simp <;> omega))).trans (by (simp (maxDischargeDepth := 8) [go_sem, World.cell?_alloc_past, ltk2, ltk3, ltk4, ltk5, ltk6, ltk7, ltk8, ltk9, *]))
  have kb : w1.cell? ⟨w.heap.size, 1, none⟩ = some (.int .i64 d1) := (hb.cell (by first | omega | (simp <;> omega))).trans (by (simp (maxDischargeDepth := 8) [go_sem, World.cell?_alloc_past, ltk2, ltk3, ltk4, ltk5, ltk6, ltk7, ltk8, ltk9, *]))
  have kc : w1.cell? ⟨w.heap.size + 1, 0, none⟩ = some (.int .i64 n2) := (hb.cell (by first | omega | (simp <;> omega))).trans (by (simp (maxDischargeDepth := 8) [go_sem, World.cell?_alloc_past, ltk2, ltk3, ltk4, ltk5, ltk6, ltk7, ltk8, ltk9, *]))
  have kd : w1.cell? ⟨w.heap.size + 1, 1, none⟩ = some (.int .i64 d2) := (hb.cell (by first | omega | (simp <;> omega))).trans (by (simp (maxDischargeDepth := 8) [go_sem, World.cell?_alloc_past, ltk2, ltk3, ltk4, ltk5, ltk6, ltk7, ltk8, ltk9, *]))
  clear hb
  have zy1 : w.heap.size < w1.heap.size := by omega
  have zx1 : w.heap.size + 1 < w1.heap.size := by omega
  go_wp2_with fail
  refine (A2 _).mono ?_
  rintro e w2 ⟨rfl, hb⟩
  have HB2 : Below w.heap.size w w2 := by
    refine Below.trans ?_ (hb.mono ?_)
    · (repeat (first | exact HB1 | (refine bal ?_ _) | (refine below_drewN ?_ _) | (refine Below.drew ?_)))
    · first | omega | (simp <;> omega)
  have zs2 : w1.heap.size + 1 < w2.heap.size + 1 := by have := hb.size; (try simp at this); omega
  replace ka : w2.cell? ⟨w.heap.size, 0, none⟩ = some (.int .i64 n1) := (hb.cell (by first | omega | (simp <;> omega))).trans (by (simp (maxDischargeDepth := 8) [go_sem, World.cell?_alloc_past, ltk2, ltk3, ltk4, ltk5, ltk6, ltk7, ltk8, ltk9, *]))
  replace kb : w2.cell? ⟨w.heap.size, 1, none⟩ = some (.int .i64 d1) := (hb.cell (by first | omega | (simp <;> omega))).trans (by (simp (maxDischargeDepth := 8) [go_sem, World.cell?_alloc_past, ltk2, ltk3, ltk4, ltk5, ltk6, ltk7, ltk8, ltk9, *]))
  replace kc : w2.cell? ⟨w.heap.size + 1, 0, none⟩ = some (.int .i64 n2) := (hb.cell (by first | omega | (simp <;> omega))).trans (by (simp (maxDischargeDepth := 8) [go_sem, World.cell?_alloc_past, ltk2, ltk3, ltk4, ltk5, ltk6, ltk7, ltk8, ltk9, *]))
  replace kd : w2.cell? ⟨w.heap.size + 1, 1, none⟩ = some (.int .i64 d2) := (hb.cell (by first | omega | (simp <;> omega))).trans (by (simp (maxDischargeDepth := 8) [go_sem, World.cell?_alloc_past, ltk2, ltk3, ltk4, ltk5, ltk6, ltk7, ltk8, ltk9, *]))
  have r1_0 : w2.cell? ⟨w1.heap.size, 0, none⟩ = some (.int .i64 x1) := (hb.cell (by first | omega | (simp <;> omega))).trans (by (simp (maxDischargeDepth := 8) [go_sem, World.cell?_alloc_past, ltk2, ltk3, ltk4, ltk5, ltk6, ltk7, ltk8, ltk9, *]))
  have r1_1 : w2.cell? ⟨w1.heap.size, 1, none⟩ = some (.int .i64 x2) := (hb.cell (by first | omega | (simp <;> omega))).trans (by (simp (maxDischargeDepth := 8) [go_sem, World.cell?_alloc_past, ltk2, ltk3, ltk4, ltk5, ltk6, ltk7, ltk8, ltk9, *]))
  clear hb HB1
  have zy2 : w.heap.size < w2.heap.size := by omega
  have zx2 : w.heap.size + 1 < w2.heap.size := by omega
  have zz_w1_2 : w1.heap.size < w2.heap.size := by omega
  go_wp2_with fail
  refine (A3 _).mono ?_
  rintro e w3 ⟨rfl, hb⟩
  have HB3 : Below w.heap.size w w3 := by
    refine Below.trans ?_ (hb.mono ?_)
    · (repeat (first | exact HB2 | (refine bal ?_ _) | (refine below_drewN ?_ _) | (refine Below.drew ?_)))
    · first | omega | (simp <;> omega)
  have zs3 : w2.heap.size + 1 < w3.heap.size + 1 := by have := hb.size; (try simp at this); omega
  replace ka : w3.cell? ⟨w.heap.size, 0, none⟩ = some (.int .i64 n1) := (hb.cell (by first | omega | (simp <;> omega))).trans (by (simp (maxDischargeDepth := 8) [go_sem, World.cell?_alloc_past, ltk2, ltk3, ltk4, ltk5, ltk6, ltk7, ltk8, ltk9, *]))
  replace kb : w3.cell? ⟨w.heap.size, 1, none⟩ = some (.int .i64 d1) := (hb.cell (by first | omega | (simp <;> omega))).trans (by (simp (maxDischargeDepth := 8) [go_sem, World.cell?_alloc_past, ltk2, ltk3, ltk4, ltk5, ltk6, ltk7, ltk8, ltk9, *]))
  replace kc : w3.cell? ⟨w.heap.size + 1, 0, none⟩ = some (.int .i64 n2) := (hb.cell (by first | omega | (simp <;> omega))).trans (by (simp (maxDischargeDepth := 8) [go_sem, World.cell?_alloc_past, ltk2, ltk3, ltk4, ltk5, ltk6, ltk7, ltk8, ltk9, *]))
  replace kd : w3.cell? ⟨w.heap.size + 1, 1, none⟩ = some (.int .i64 d2) := (hb.cell (by first | omega | (simp <;> omega))).trans (by (simp (maxDischargeDepth := 8) [go_sem, World.cell?_alloc_past, ltk2, ltk3, ltk4, ltk5, ltk6, ltk7, ltk8, ltk9, *]))
  replace r1_0 : w3.cell? ⟨w1.heap.size, 0, none⟩ = some (.int .i64 x1) := (hb.cell (by first | omega | (simp <;> omega))).trans (by (simp (maxDischargeDepth := 8) [go_sem, World.cell?_alloc_past, ltk2, ltk3, ltk4, ltk5, ltk6, ltk7, ltk8, ltk9, *]))
  replace r1_1 : w3.cell? ⟨w1.heap.size, 1, none⟩ = some (.int .i64 x2) := (hb.cell (by first | omega | (simp <;> omega))).trans (by (simp (maxDischargeDepth := 8) [go_sem, World.cell?_alloc_past, ltk2, ltk3, ltk4, ltk5, ltk6, ltk7, ltk8, ltk9, *]))
  have r2_0 : w3.cell? ⟨w2.heap.size, 0, none⟩ = some (.int .i64 x1) := (hb.cell (by first | omega | (simp <;> omega))).trans (by (simp (maxDischargeDepth := 8) [go_sem, World.cell?_alloc_past, ltk2, ltk3, ltk4, ltk5, ltk6, ltk7, ltk8, ltk9, *]))
  have r2_1 : w3.cell? ⟨w2.heap.size, 1, none⟩ = some (.int .i64 x2) := (hb.cell (by first | omega | (simp <;> omega))).trans (by (simp (maxDischargeDepth := 8) [go_sem, World.cell?_alloc_past, ltk2, ltk3, ltk4, ltk5, ltk6, ltk7, ltk8, ltk9, *]))
  clear hb HB2
  have zy3 : w.heap.size < w3.heap.size := by omega
  have zx3 : w.heap.size + 1 < w3.heap.size := by omega
  have zz_w1_3 : w1.heap.size < w3.heap.size := by omega
  have zz_w2_3 : w2.heap.size < w3.heap.size := by omega
  go_wp2_with fail
  refine (A4 _).mono ?_
  rintro e w4 ⟨rfl, hb⟩
  have HB4 : Below w.heap.size w w4 := by
    refine Below.trans ?_ (hb.mono ?_)
    · (repeat (first | exact HB3 | (refine bal ?_ _) | (refine below_drewN ?_ _) | (refine Below.drew ?_)))
    · first | omega | (simp <;> omega)
  have zs4 : w3.heap.size + 1 < w4.heap.size + 1 := by have := hb.size; (try simp at this); omega
  replace ka : w4.cell? ⟨w.heap.size, 0, none⟩ = some (.int .i64 n1) := (hb.cell (by first | omega | (simp <;> omega))).trans (by (simp (maxDischargeDepth := 8) [go_sem, World.cell?_alloc_past, ltk2, ltk3, ltk4, ltk5, ltk6, ltk7, ltk8, ltk9, *]))
  replace kb : w4.cell? ⟨w.heap.size, 1, none⟩ = some (.int .i64 d1) := (hb.cell (by first | omega | (simp <;> omega))).trans (by (simp (maxDischargeDepth := 8) [go_sem, World.cell?_alloc_past, ltk2, ltk3, ltk4, ltk5, ltk6, ltk7, ltk8, ltk9, *]))
  replace kc : w4.cell? ⟨w.heap.size + 1, 0, none⟩ = some (.int .i64 n2) := (hb.cell (by first | omega | (simp <;> omega))).trans (by (simp (maxDischargeDepth := 8) [go_sem, World.cell?_alloc_past, ltk2, ltk3, ltk4, ltk5, ltk6, ltk7, ltk8, ltk9, *]))
  replace kd : w4.cell? ⟨w.heap.size + 1, 1, none⟩ = some (.int .i64 d2) := (hb.cell (by first | omega | (simp <;> omega))).trans (by (simp (maxDischargeDepth := 8) [go_sem, World.cell?_alloc_past, ltk2, ltk3, ltk4, ltk5, ltk6, ltk7, ltk8, ltk9, *]))
  replace r1_0 : w4.cell? ⟨w1.heap.size, 0, none⟩ = some (.int .i64 x1) := (hb.cell (by first | omega | (simp <;> omega))).trans (by (simp (maxDischargeDepth := 8) [go_sem, World.cell?_alloc_past, ltk2, ltk3, ltk4, ltk5, ltk6, ltk7, ltk8, ltk9, *]))
  replace r1_1 : w4.cell? ⟨w1.heap.size, 1, none⟩ = some (.int .i64 x2) := (hb.cell (by first | omega | (simp <;> omega))).trans (by (simp (maxDischargeDepth := 8) [go_sem, World.cell?_alloc_past, ltk2, ltk3, ltk4, ltk5, ltk6, ltk7, ltk8, ltk9, *]))
  replace r2_0 : w4.cell? ⟨w2.heap.size, 0, none⟩ = some (.int .i64 x1) := (hb.cell (by first | omega | (simp <;> omega))).trans (by (simp (maxDischargeDepth := 8) [go_sem, World.cell?_alloc_past, ltk2, ltk3, ltk4, ltk5, ltk6, ltk7, ltk8, ltk9, *]))
  replace r2_1 : w4.cell? ⟨w2.heap.size, 1, none⟩ = some (.int .i64 x2) := (hb.cell (by first | omega | (simp <;> omega))).trans (by (simp (maxDischargeDepth := 8) [go_sem, World.cell?_alloc_past, ltk2, ltk3, ltk4, ltk5, ltk6, ltk7, ltk8, ltk9, *]))
  have r3_0 : w4.cell? ⟨w3.heap.size, 0, none⟩ = some (.int .i64 y1) := (hb.cell (by first | omega | (simp <;> omega))).trans (by (simp (maxDischargeDepth := 8) [go_sem, World.cell?_alloc_past, ltk2, ltk3, ltk4, ltk5, ltk6, ltk7, ltk8, ltk9, *]))
  have r3_1 : w4.cell? ⟨w3.heap.size, 1, none⟩ = some (.int .i64 y2) := (hb.cell (by first | omega | (simp <;> omega))).trans (by (simp (maxDischargeDepth := 8) [go_sem, World.cell?_alloc_past, ltk2, ltk3, ltk4, ltk5, ltk6, ltk7, ltk8, ltk9, *]))
  clear hb HB3
  have zy4 : w.heap.size < w4.heap.size := by omega
  have zx4 : w.heap.size + 1 < w4.heap.size := by omega
  have zz_w1_4 : w1.heap.size < w4.heap.size := by omega
  have zz_w2_4 : w2.heap.size < w4.heap.size := by omega
  have zz_w3_4 : w3.heap.size < w4.heap.size := by omega
  go_wp2_with fail
  refine (A5 _).mono ?_
  rintro e w5 ⟨rfl, hb⟩
  have HB5 : Below w.heap.size w w5 := by
    refine Below.trans ?_ (hb.mono ?_)
    · (repeat (first | exact HB4 | (refine bal ?_ _) | (refine below_drewN ?_ _) | (refine Below.drew ?_)))
    · first | omega | (simp <;> omega)
  have zs5 : w4.heap.size + 1 < w5.heap.size + 1 := by have := hb.size; (try simp at this); omega
  replace ka : w5.cell? ⟨w.heap.size, 0, none⟩ = some (.int .i64 n1) := (hb.cell (by first | omega | (simp <;> omega))).trans (by (simp (maxDischargeDepth := 8) [go_sem, World.cell?_alloc_past, ltk2, ltk3, ltk4, ltk5, ltk6, ltk7, ltk8, ltk9, *]))
  replace kb : w5.cell? ⟨w.heap.size, 1, none⟩ = some (.int .i64 d1) := (hb.cell (by first | omega | (simp <;> omega))).trans (by (simp (maxDischargeDepth := 8) [go_sem, World.cell?_alloc_past, ltk2, ltk3, ltk4, ltk5, ltk6, ltk7, ltk8, ltk9, *]))
  replace kc : w5.cell? ⟨w.heap.size + 1, 0, none⟩ = some (.int .i64 n2) := (hb.cell (by first | omega | (simp <;> omega))).trans (by (simp (maxDischargeDepth := 8) [go_sem, World.cell?_alloc_past, ltk2, ltk3, ltk4, ltk5, ltk6, ltk7, ltk8, ltk9, *]))
  replace kd : w5.cell? ⟨w.heap.size + 1, 1, none⟩ = some (.int .i64 d2) := (hb.cell (by first | omega | (simp <;> omega))).trans (by (simp (maxDischargeDepth := 8) [go_sem, World.cell?_alloc_past, ltk2, ltk3, ltk4, ltk5, ltk6, ltk7, ltk8, ltk9, *]))
  replace r1_0 : w5.cell? ⟨w1.heap.size, 0, none⟩ = some (.int .i64 x1) := (hb.cell (by first | omega | (simp <;> omega))).trans (by (simp (maxDischargeDepth := 8) [go_sem, World.cell?_alloc_past, ltk2, ltk3, ltk4, ltk5, ltk6, ltk7, ltk8, ltk9, *]))
  replace r1_1 : w5.cell? ⟨w1.heap.size, 1, none⟩ = some (.int .i64 x2) := (hb.cell (by first | omega | (simp <;> omega))).trans (by (simp (maxDischargeDepth := 8) [go_sem, World.cell?_alloc_past, ltk2, ltk3, ltk4, ltk5, ltk6, ltk7, ltk8, ltk9, *]))
  replace r2_0 : w5.cell? ⟨w2.heap.size, 0, none⟩ = some (.int .i64 x1) := (hb.cell (by first | omega | (simp <;> omega))).trans (by (simp (maxDischargeDepth := 8) [go_sem, World.cell?_alloc_past, ltk2, ltk3, ltk4, ltk5, ltk6, ltk7, ltk8, ltk9, *]))
  replace r2_1 : w5.cell? ⟨w2.heap.size, 1, none⟩ = some (.int .i64 x2) := (hb.cell (by first | omega | (simp <;> omega))).trans (by (simp (maxDischargeDepth := 8) [go_sem, World.cell?_alloc_past, ltk2, ltk3, ltk4, ltk5, ltk6, ltk7, ltk8, ltk9, *]))
  replace r3_0 : w5.cell? ⟨w3.heap.size, 0, none⟩ = some (.int .i64 y1) := (hb.cell (by first | omega | (simp <;> omega))).trans (by (simp (maxDischargeDepth := 8) [go_sem, World.cell?_alloc_past, ltk2, ltk3, ltk4, ltk5, ltk6, ltk7, ltk8, ltk9, *]))
  replace r3_1 : w5.cell? ⟨w3.heap.size, 1, none⟩ = some (.int .i64 y2) := (hb.cell (by first | omega | (simp <;> omega))).trans (by (simp (maxDischargeDepth := 8) [go_sem, World.cell?_alloc_past, ltk2, ltk3, ltk4, ltk5, ltk6, ltk7, ltk8, ltk9, *]))
  have r4_0 : w5.cell? ⟨w4.heap.size, 0, none⟩ = some (.int .i64 y1) := (hb.cell (by first | omega | (simp <;> omega))).trans (by (simp (maxDischargeDepth := 8) [go_sem, World.cell?_alloc_past, ltk2, ltk3, ltk4, ltk5, ltk6, ltk7, ltk8, ltk9, *]))
  have r4_1 : w5.cell? ⟨w4.heap.size, 1, none⟩ = some (.int .i64 y2) := (hb.cell (by first | omega | (simp <;> omega))).trans (by (simp (maxDischargeDepth := 8) [go_sem, World.cell?_alloc_past, ltk2, ltk3, ltk4, ltk5, ltk6, ltk7, ltk8, ltk9, *]))
  clear hb HB4
  have zy5 : w.heap.size < w5.heap.size := by omega
  have zx5 : w.heap.size + 1 < w5.heap.size := by omega
  have zz_w1_5 : w1.heap.size < w5.heap.size := by omega
  have zz_w2_5 : w2.heap.size < w5.heap.size := by omega
  have zz_w3_5 : w3.heap.size < w5.heap.size := by omega
  have zz_w4_5 : w4.heap.size < w5.heap.size := by omega
  go_wp2_with fail
  refine (A6 _).mono ?_
  rintro e w6 ⟨rfl, hb⟩
  have HB6 : Below w.heap.size w w6 := by
    refine Below.trans ?_ (hb.mono ?_)
    · (repeat (first | exact HB5 | (refine bal ?_ _) | (refine below_drewN ?_ _) | (refine Below.drew ?_)))
    · first | omega | (simp <;> omega)
  have zs6 : w5.heap.size + 0 < w6.heap.size + 1 := by have := hb.size; (try simp at this); omega
  replace ka : w6.cell? ⟨w.heap.size, 0, none⟩ = some (.int .i64 n1) := (hb.cell (by first | omega | (simp <;> omega))).trans (by (simp (maxDischargeDepth := 8) [go_sem, World.cell?_alloc_past, ltk2, ltk3, ltk4, ltk5, ltk6, ltk7, ltk8, ltk9, *]))
  replace kb : w6.cell? ⟨w.heap.size, 1, none⟩ = some (.int .i64 d1) := (hb.cell (by first | omega | (simp <;> omega))).trans (by (simp (maxDischargeDepth := 8) [go_sem, World.cell?_alloc_past, ltk2, ltk3, ltk4, ltk5, ltk6, ltk7, ltk8, ltk9, *]))
  replace kc : w6.cell? ⟨w.heap.size + 1, 0, none⟩ = some (.int .i64 n2) := (hb.cell (by first | omega | (simp <;> omega))).trans (by (simp (maxDischargeDepth := 8) [go_sem, World.cell?_alloc_past, ltk2, ltk3, ltk4, ltk5, ltk6, ltk7, ltk8, ltk9, *]))
  replace kd : w6.cell? ⟨w.heap.size + 1, 1, none⟩ = some (.int .i64 d2) := (hb.cell (by first | omega | (simp <;> omega))).trans (by (simp (maxDischargeDepth := 8) [go_sem, World.cell?_alloc_past, ltk2, ltk3, ltk4, ltk5, ltk6, ltk7, ltk8, ltk9, *]))
  replace r1_0 : w6.cell? ⟨w1.heap.size, 0, none⟩ = some (.int .i64 x1) := (hb.cell (by first | omega | (simp <;> omega))).trans (by (simp (maxDischargeDepth := 8) [go_sem, World.cell?_alloc_past, ltk2, ltk3, ltk4, ltk5, ltk6, ltk7, ltk8, ltk9, *]))
  replace r1_1 : w6.cell? ⟨w1.heap.size, 1, none⟩ = some (.int .i64 x2) := (hb.cell (by first | omega | (simp <;> omega))).trans (by (simp (maxDischargeDepth := 8) [go_sem, World.cell?_alloc_past, ltk2, ltk3, ltk4, ltk5, ltk6, ltk7, ltk8, ltk9, *]))
  replace r2_0 : w6.cell? ⟨w2.heap.size, 0, none⟩ = some (.int .i64 x1) := (hb.cell (by first | omega | (simp <;> omega))).trans (by (simp (maxDischargeDepth := 8) [go_sem, World.cell?_alloc_past, ltk2, ltk3, ltk4, ltk5, ltk6, ltk7, ltk8, ltk9, *]))
  replace r2_1 : w6.cell? ⟨w2.heap.size, 1, none⟩ = some (.int .i64 x2) := (hb.cell (by first | omega | (simp <;> omega))).trans (by (simp (maxDischargeDepth := 8) [go_sem, World.cell?_alloc_past, ltk2, ltk3, ltk4, ltk5, ltk6, ltk7, ltk8, ltk9, *]))
  replace r3_0 : w6.cell? ⟨w3.heap.size, 0, none⟩ = some (.int .i64 y1) := (hb.cell (by first | omega | (simp <;> omega))).trans (by (simp (maxDischargeDepth := 8) [go_sem, World.cell?_alloc_past, ltk2, ltk3, ltk4, ltk5, ltk6, ltk7, ltk8, ltk9, *]))
  replace r3_1 : w6.cell? ⟨w3.heap.size, 1, none⟩ = some (.int .i64 y2) := (hb.cell (by first | omega | (simp <;> omega))).trans (by (simp (maxDischargeDepth := 8) [go_sem, World.cell?_alloc_past, ltk2, ltk3, ltk4, ltk5, ltk6, ltk7, ltk8, ltk9, *]))
  replace r4_0 : w6.cell? ⟨w4.heap.size, 0, none⟩ = some (.int .i64 y1) := (hb.cell (by first | omega | (simp <;> omega))).trans (by (simp (maxDischargeDepth := 8) [go_sem, World.cell?_alloc_past, ltk2, ltk3, ltk4, ltk5, ltk6, ltk7, ltk8, ltk9, *]))
  replace r4_1 : w6.cell? ⟨w4.heap.size, 1, none⟩ = some (.int .i64 y2) := (hb.cell (by first | omega | (simp <;> omega))).trans (by (simp (maxDischargeDepth := 8) [go_sem, World.cell?_alloc_past, ltk2, ltk3, ltk4, ltk5, ltk6, ltk7, ltk8, ltk9, *]))
  clear hb HB5
  have zy6 : w.heap.size < w6.heap.size := by omega
  have zx6 : w.heap.size + 1 < w6.heap.size := by omega
  have zz_w1_6 : w1.heap.size < w6.heap.size := by omega
  have zz_w2_6 : w2.heap.size < w6.heap.size := by omega
  have zz_w3_6 : w3.heap.size < w6.heap.size := by omega
  have zz_w4_6 : w4.heap.size < w6.heap.size := by omega
  go_wp2_with fail
  refine (A7 _).mono ?_
  rintro e w7 ⟨rfl, hb⟩
  have HB7 : Below w.heap.size w w7 := by
    refine Below.trans ?_ (hb.mono ?_)
    · (repeat (first | exact HB6 | (refine bal ?_ _) | (refine below_drewN ?_ _) | (refine Below.drew ?_)))
    · first | omega | (simp <;> omega)
  have zs7 : w6.heap.size + 0 < w7.heap.size + 1 := by have := hb.size; (try simp at this); omega
  replace ka : w7.cell? ⟨w.heap.size, 0, none⟩ = some (.int .i64 n1) := (hb.cell (by first | omega | (simp <;> omega))).trans (by (simp (maxDischargeDepth := 8) [go_sem, World.cell?_alloc_past, ltk2, ltk3, ltk4, ltk5, ltk6, ltk7, ltk8, ltk9, *]))
  replace kb : w7.cell? ⟨w.heap.size, 1, none⟩ = some (.int .i64 d1) := (hb.cell (by first | omega | (simp <;> omega))).trans (by (simp (maxDischargeDepth := 8) [go_sem, World.cell?_alloc_past, ltk2, ltk3, ltk4, ltk5, ltk6, ltk7, ltk8, ltk9, *]))
  replace kc : w7.cell? ⟨w.heap.size + 1, 0, none⟩ = some (.int .i64 n2) := (hb.cell (by first | omega | (simp <;> omega))).trans (by (simp (maxDischargeDepth := 8) [go_sem, World.cell?_alloc_past, ltk2, ltk3, ltk4, ltk5, ltk6, ltk7, ltk8, ltk9, *]))
  replace kd : w7.cell? ⟨w.heap.size + 1, 1, none⟩ = some (.int .i64 d2) := (hb.cell (by first | omega | (simp <;> omega))).trans (by (simp (maxDischargeDepth := 8) [go_sem, World.cell?_alloc_past, ltk2, ltk3, ltk4, ltk5, ltk6, ltk7, ltk8, ltk9, *]))
  replace r1_0 : w7.cell? ⟨w1.heap.size, 0, none⟩ = some (.int .i64 x1) := (hb.cell (by first | omega | (simp <;> omega))).trans (by (simp (maxDischargeDepth := 8) [go_sem, World.cell?_alloc_past, ltk2, ltk3, ltk4, ltk5, ltk6, ltk7, ltk8, ltk9, *]))
  replace r1_1 : w7.cell? ⟨w1.heap.size, 1, none⟩ = some (.int .i64 x2) := (hb.cell (by first | omega | (simp <;> omega))).trans (by (simp (maxDischargeDepth := 8) [go_sem, World.cell?_alloc_past, ltk2, ltk3, ltk4, ltk5, ltk6, ltk7, ltk8, ltk9, *]))
  replace r2_0 : w7.cell? ⟨w2.heap.size, 0, none⟩ = some (.int .i64 x1) := (hb.cell (by first | omega | (simp <;> omega))).trans (by (simp (maxDischargeDepth := 8) [go_sem, World.cell?_alloc_past, ltk2, ltk3, ltk4, ltk5, ltk6, ltk7, ltk8, ltk9, *]))
  replace r2_1 : w7.cell? ⟨w2.heap.size, 1, none⟩ = some (.int .i64 x2) := (hb.cell (by first | omega | (simp <;> omega))).trans (by (simp (maxDischargeDepth := 8) [go_sem, World.cell?_alloc_past, ltk2, ltk3, ltk4, ltk5, ltk6, ltk7, ltk8, ltk9, *]))
  replace r3_0 : w7.cell? ⟨w3.heap.size, 0, none⟩ = some (.int .i64 y1) := (hb.cell (by first | omega | (simp <;> omega))).trans (by (simp (maxDischargeDepth := 8) [go_sem, World.cell?_alloc_past, ltk2, ltk3, ltk4, ltk5, ltk6, ltk7, ltk8, ltk9, *]))
  replace r3_1 : w7.cell? ⟨w3.heap.size, 1, none⟩ = some (.int .i64 y2) := (hb.cell (by first | omega | (simp <;> omega))).trans (by (simp (maxDischargeDepth := 8) [go_sem, World.cell?_alloc_past, ltk2, ltk3, ltk4, ltk5, ltk6, ltk7, ltk8, ltk9, *]))
  replace r4_0 : w7.cell? ⟨w4.heap.size, 0, none⟩ = some (.int .i64 y1) := (hb.cell (by first | omega | (simp <;> omega))).trans (by (simp (maxDischargeDepth := 8) [go_sem, World.cell?_alloc_past, ltk2, ltk3, ltk4, ltk5, ltk6, ltk7, ltk8, ltk9, *]))
  replace r4_1 : w7.cell? ⟨w4.heap.size, 1, none⟩ = some (.int .i64 y2) := (hb.cell (by first | omega | (simp <;> omega))).trans (by (simp (maxDischargeDepth := 8) [go_sem, World.cell?_alloc_past, ltk2, ltk3, ltk4, ltk5, ltk6, ltk7, ltk8, ltk9, *]))
  clear hb HB6
  have zy7 : w.heap.size < w7.heap.size := by omega
  have zx7 : w.heap.size + 1 < w7.heap.size := by omega
  have zz_w1_7 : w1.heap.size < w7.heap.size := by omega
  have zz_w2_7 : w2.heap.size < w7.heap.size := by omega
  have zz_w3_7 : w3.heap.size < w7.heap.size := by omega
  have zz_w4_7 : w4.heap.size < w7.heap.size := by omega
  go_wp2_with fail
  refine (A8 _).mono ?_
  rintro e w8 ⟨rfl, hb⟩
  have HB8 : Below w.heap.size w w8 := by
    refine Below.trans ?_ (hb.mono ?_)
    · (repeat (first | exact HB7 | (refine bal ?_ _) | (refine below_drewN ?_ _) | (refine Below.drew ?_)))
    · first | omega | (simp <;> omega)
  have zs8 : w7.heap.size + 0 < w8.heap.size + 1 := by have := hb.size; (try simp at this); omega
  replace ka : w8.cell? ⟨w.heap.size, 0, none⟩ = some (.int .i64 n1) := (hb.cell (by first | omega | (simp <;> omega))).trans (by (simp (maxDischargeDepth := 8) [go_sem, World.cell?_alloc_past, ltk2, ltk3, ltk4, ltk5, ltk6, ltk7, ltk8, ltk9, *]))
  replace kb : w8.cell? ⟨w.heap.size, 1, none⟩ = some (.int .i64 d1) := (hb.cell (by first | omega | (simp <;> omega))).trans (by (simp (maxDischargeDepth := 8) [go_sem, World.cell?_alloc_past, ltk2, ltk3, ltk4, ltk5, ltk6, ltk7, ltk8, ltk9, *]))
  replace kc : w8.cell? ⟨w.heap.size + 1, 0, none⟩ = some (.int .i64 n2) := (hb.cell (by first | omega | (simp <;> omega))).trans (by (simp (maxDischargeDepth := 8) [go_sem, World.cell?_alloc_past, ltk2, ltk3, ltk4, ltk5, ltk6, ltk7, ltk8, ltk9, *]))
  replace kd : w8.cell? ⟨w.heap.size + 1, 1, none⟩ = some (.int .i64 d2) := (hb.cell (by first | omega | (simp <;> omega))).trans (by (simp (maxDischargeDepth := 8) [go_sem, World.cell?_alloc_past, ltk2, ltk3, ltk4, ltk5, ltk6, ltk7, ltk8, ltk9, *]))
  replace r1_0 : w8.cell? ⟨w1.heap.size, 0, none⟩ = some (.int .i64 x1) := (hb.cell (by first | omega | (simp <;> omega))).trans (by (simp (maxDischargeDepth := 8) [go_sem, World.cell?_alloc_past, ltk2, ltk3, ltk4, ltk5, ltk6, ltk7, ltk8, ltk9, *]))
  replace r1_1 : w8.cell? ⟨w1.heap.size, 1, none⟩ = some (.int .i64 x2) := (hb.cell (by first | omega | (simp <;> omega))).trans (by (simp (maxDischargeDepth := 8) [go_sem, World.cell?_alloc_past, ltk2, ltk3, ltk4, ltk5, ltk6, ltk7, ltk8, ltk9, *]))
  replace r2_0 : w8.cell? ⟨w2.heap.size, 0, none⟩ = some (.int .i64 x1) := (hb.cell (by first | omega | (simp <;> omega))).trans (by (simp (maxDischargeDepth := 8) [go_sem, World.cell?_alloc_past, ltk2, ltk3, ltk4, ltk5, ltk6, ltk7, ltk8, ltk9, *]))
  replace r2_1 : w8.cell? ⟨w2.heap.size, 1, none⟩ = some (.int .i64 x2) := (hb.cell (by first | omega | (simp <;> omega))).trans (by (simp (maxDischargeDepth := 8) [go_sem, World.cell?_alloc_past, ltk2, ltk3, ltk4, ltk5, ltk6, ltk7, ltk8, ltk9, *]))
  replace r3_0 : w8.cell? ⟨w3.heap.size, 0, none⟩ = some (.int .i64 y1) := (hb.cell (by first | omega | (simp <;> omega))).trans (by (simp (maxDischargeDepth := 8) [go_sem, World.cell?_alloc_past, ltk2, ltk3, ltk4, ltk5, ltk6, ltk7, ltk8, ltk9, *]))
  replace r3_1 : w8.cell? ⟨w3.heap.size, 1, none⟩ = some (.int .i64 y2) := (hb.cell (by first | omega | (simp <;> omega))).trans (by (simp (maxDischargeDepth := 8) [go_sem, World.cell?_alloc_past, ltk2, ltk3, ltk4, ltk5, ltk6, ltk7, ltk8, ltk9, *]))
  replace r4_0 : w8.cell? ⟨w4.heap.size, 0, none⟩ = some (.int .i64 y1) := (hb.cell (by first | omega | (simp <;> omega))).trans (by (simp (maxDischargeDepth := 8) [go_sem, World.cell?_alloc_past, ltk2, ltk3, ltk4, ltk5, ltk6, ltk7, ltk8, ltk9, *]))
  replace r4_1 : w8.cell? ⟨w4.heap.size, 1, none⟩ = some (.int .i64 y2) := (hb.cell (by first | omega | (simp <;> omega))).trans (by (simp (maxDischargeDepth := 8) [go_sem, World.cell?_alloc_past, ltk2, ltk3, ltk4, ltk5, ltk6, ltk7, ltk8, ltk9, *]))
  clear hb HB7
  have zy8 : w.heap.size < w8.heap.size := by omega
  have zx8 : w.heap.size + 1 < w8.heap.size := by omega
  have zz_w1_8 : w1.heap.size < w8.heap.size := by omega
  have zz_w2_8 : w2.heap.size < w8.heap.size := by omega
  have zz_w3_8 : w3.heap.size < w8.heap.size := by omega
  have zz_w4_8 : w4.heap.size < w8.heap.size := by omega
  clear A1 A2 A3 A4 A5 A6 A7 A8
  go_wp2_with fail
  have dz1 : ∀ (W : World) (l : List Obj) (d : Nat), (ext W.drew l d) = (ext W l d) := fun _ _ _ => rfl
  have dz2 : ∀ (W : World) (l : List Obj) (n d : Nat), (ext (W.drewN n) l d) = (ext W l d) := fun _ _ _ _ => rfl
  go_region_held3 (fun w' => w'.cell? ⟨w.heap.size, 0, none⟩ = some (.int .i64 n1) ∧ w'.cell? ⟨w.heap.size, 1, none⟩ = some (.int .i64 d1) ∧ w'.cell? ⟨w1.heap.size, 0, none⟩ = some (.int .i64 x1) ∧ w'.cell? ⟨w1.heap.size, 1, none⟩ = some (.int .i64 x2) ∧ w'.cell? ⟨w2.heap.size, 0, none⟩ = some (.int .i64 x1) ∧ w'.cell? ⟨w2.heap.size, 1, none⟩ = some (.int .i64 x2) ∧ w'.cell? ⟨w3.heap.size, 0, none⟩ = some (.int .i64 y1) ∧ w'.cell? ⟨w3.heap.size, 1, none⟩ = some (.int .i64 y2) ∧ w'.cell? ⟨w4.heap.size, 0, none⟩ = some (.int .i64 y1) ∧ w'.cell? ⟨w4.heap.size, 1, none⟩ = some (.int .i64 y2)) (simp (maxDischargeDepth := 8) [go_sem, World.cell?_alloc_past, ltk2, ltk3, ltk4, ltk5, ltk6, ltk7, ltk8, ltk9, *])
    ((first
      | (go_at_call 20; with_reducible refine (A9 _).mono ?_; rintro e w' ⟨rfl, hb⟩; obtain ⟨l, d, rfl⟩ := toExt hb; clear hb)
      | (go_at_call 21; with_reducible refine (A0 _).mono ?_; rintro e w' ⟨rfl, hb⟩; obtain ⟨l, d, rfl⟩ := toExt hb; clear hb)))
  all_goals (try go_wp2)
  all_goals go_ret
  all_goals exact ⟨rfl, by (repeat (first | exact HB8 | (refine bext ?_ _ _) | (refine below_drewN ?_ _) | (refine Below.drew ?_)))⟩
end Go.Proofs.Ytfhnmpofkglgfaa
