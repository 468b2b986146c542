/-
  frac.Cmp.
-/
import Derived.Test.YtdolfdmgdknboaaFer
import Derived.Test.YtdolfdmgdknboaaFx
namespace Go.Proofs.Ytdolfdmgdknboaa
open Go.RowKit
set_option linter.unusedVariables false
set_option linter.unusedSimpArgs false

set_option maxHeartbeats 800000 in
theorem frac_Cmp (n1 d1 n2 d2 : Int) (a1 : -9223372036854775808 ≤ n1) (a2 : n1 ≤ 9223372036854775807) (a3 : -9223372036854775808 ≤ d1) (a4 : d1 ≤ 9223372036854775807)
    (c1 : -9223372036854775808 ≤ n2) (c2 : n2 ≤ 9223372036854775807) (c3 : -9223372036854775808 ≤ d2) (c4 : d2 ≤ 9223372036854775807) (w : World) :
    Calls Try.prog 111 #[.agg #[.int .i64 n1, .int .i64 d1], .agg #[.int .i64 n2, .int .i64 d2]] w fun e w' =>
      e = .returned (.tuple #[.int .i64 (coV n1 d1 n2 d2), .int .i64 (chk2 n1 d1 n2 d2)]) ∧ Below w.heap.size w w' := by
  have A1 := fun w => frac_checkBoth n1 d1 n2 d2 a1 a2 a3 a4 c1 c2 c3 c4 w
  by_cases ho : okF n1 d1 = true ∧ okF n2 d2 = true
  · have hc : chk2 n1 d1 n2 d2 = 0 := by rw [chk2, if_pos ho.1, chkI, if_pos ho.2]
    obtain ⟨o1, o2, o3, o4, o5⟩ := okF_out ho.1
    obtain ⟨p1, p2, p3, p4, p5⟩ := okF_out ho.2
    have z1 := mul_bd _ _ 1000000000000000000 1000000000000000000 (absI_nn n1) (absI_le n1 o3 o4) (absI_nn d2) (absI_le d2 (by omega) p2)
    have z2 := mul_bd _ _ 1000000000000000000 1000000000000000000 (absI_nn n2) (absI_le n2 p3 p4) (absI_nn d1) (absI_le d1 (by omega) o2)
    have B3 := fun w => frac_order (sgB n1 d2) (sgB n2 d1) (absI n1 * absI d2) (absI n2 * absI d1) z1.1 z2.1 (by omega) w
    have hv : coV n1 d1 n2 d2 = cmpI (sv (sgB n1 d2) (absI n1 * absI d2)) (sv (sgB n2 d1) (absI n2 * absI d1)) := by rw [coV, if_pos ho, sg_mul, sg_mul]
    rw [hc] at A1
    rw [hc, hv]
    generalize cmpI (sv (sgB n1 d2) (absI n1 * absI d2)) (sv (sgB n2 d1) (absI n2 * absI d1)) = x at *
    clear ho hc hv o5 p5
    have dAl := dAl; have dSt := dSt; have xC := ext_cell; have xF := ext_frozen; have xS := ext_set; have xN := ext_drewN; have xD := ext_drew; have xL := ext_lt; have xE := ext_ne; have xG := ext_nr; have xX := ext_ext; have xL1 := ext_lt1; have xL2 := ext_lt2; have xL3 := ext_lt3; have xM0 := ext_le0; have xM1 := ext_le1; have xM2 := ext_le2
    go_enter Try.func111, Try.ntmps111
    go_wp2_with fail
    refine (A1 _).mono ?_
    rintro e w1c ⟨rfl, hb1c⟩
    obtain ⟨l1c, d1c, rfl⟩ := toExt hb1c
    clear hb1c
    go_wp2_with fail
    go_region_held3 (fun w' => w'.cell? ⟨w.heap.size, 0, none⟩ = some (.int .i64 n1) ∧ w'.cell? ⟨w.heap.size, 1, none⟩ = some (.int .i64 d1) ∧ w'.cell? ⟨w.heap.size + 1, 0, none⟩ = some (.int .i64 n2) ∧ w'.cell? ⟨w.heap.size + 1, 1, none⟩ = some (.int .i64 d2)) (simp (maxDischargeDepth := 8) [go_sem, World.cell?_alloc_past, ltk2, ltk3, ltk4, ltk5, ltk6, ltk7, ltk8, ltk9, *])
        ((first
          | (go_at_call 129; refine (frac_times _ _ (by omega) (by omega) (by omega) (by omega) _).mono ?_; rintro e w' ⟨rfl, c3, rfl⟩)
          | (go_at_call 128; refine (B3 _).mono ?_; rintro e w' ⟨rfl, hb⟩; obtain ⟨l, d, rfl⟩ := toExt hb; clear hb)))
    all_goals go_wp2
    all_goals go_ret2
    all_goals exact ⟨rfl, by (repeat (first | with_reducible exact b0 _ | (with_reducible refine bext ?_ _ _) | (with_reducible refine below_drewN ?_ _) | (with_reducible refine Below.drew ?_) | (with_reducible refine bal ?_ _)))⟩
  · have hc : chk2 n1 d1 n2 d2 = 8 := by
      rw [chk2]
      by_cases h1 : okF n1 d1 = true
      · rw [if_pos h1, chkI, if_neg (fun h2 => ho ⟨h1, h2⟩)]
      · rw [if_neg h1]
    have hv : coV n1 d1 n2 d2 = 0 := by rw [coV, if_neg ho]
    rw [hc] at A1
    rw [hc, hv]
    clear ho hc hv
    have dAl := dAl; have dSt := dSt; have xC := ext_cell; have xF := ext_frozen; have xS := ext_set; have xN := ext_drewN; have xD := ext_drew; have xL := ext_lt; have xE := ext_ne; have xG := ext_nr; have xX := ext_ext; have xL1 := ext_lt1; have xL2 := ext_lt2; have xL3 := ext_lt3; have xM0 := ext_le0; have xM1 := ext_le1; have xM2 := ext_le2
    go_enter Try.func111, Try.ntmps111
    go_wp2_with fail
    refine (A1 _).mono ?_
    rintro e w2c ⟨rfl, hb2c⟩
    obtain ⟨l2c, d2c, rfl⟩ := toExt hb2c
    clear hb2c
    clear A1
    go_wp2
    go_ret2
    exact ⟨rfl, by (repeat (first | with_reducible exact b0 _ | (with_reducible refine bext ?_ _ _) | (with_reducible refine below_drewN ?_ _) | (with_reducible refine Below.drew ?_) | (with_reducible refine bal ?_ _)))⟩
end Go.Proofs.Ytdolfdmgdknboaa
