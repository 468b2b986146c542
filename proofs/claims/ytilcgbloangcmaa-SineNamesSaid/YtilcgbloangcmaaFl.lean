/-
  The order of the reference.
-/
import Derived.Test.YtilcgbloangcmaaFlb
import Derived.Deep.DeepCutAuto
namespace Go.Proofs.Ytilcgbloangcmaa
open Go.RowKit
set_option linter.unusedVariables false
set_option linter.unusedSimpArgs false

set_option maxRecDepth 100000 in
set_option maxHeartbeats 16000000 in
theorem less_core (n1 d1 n2 d2 X Y : Int) (r : Bool)
    (a1 : -1000000000000000000 ≤ n1) (a2 : n1 ≤ 1000000000000000000) (a3 : 1 ≤ d1) (a4 : d1 ≤ 1000000000000000000)
    (c1 : -1000000000000000000 ≤ n2) (c2 : n2 ≤ 1000000000000000000) (c3 : 1 ≤ d2) (c4 : d2 ≤ 1000000000000000000)
    (eX : absI n1 * d2 = X) (eY : absI n2 * d1 = Y)
    (hs : (!decide (n1 < 0) == decide (n2 < 0)) = false) (hr : Hid (r = if n1 < 0 then bigB X Y else bigB Y X)) (w : World) :
    Calls Try.prog 49 #[.agg #[.int .i64 n1, .int .i64 d1], .agg #[.int .i64 n2, .int .i64 d2]] w fun e w' =>
      e = .returned (.bool r) ∧ Below w.heap.size w w' := by
  have z1 := absI_bd n1 (by omega) (by omega)
  have z2 := absI_bd n2 (by omega) (by omega)
  have m1 := mul_bd _ _ 1000000000000000000 1000000000000000000 (absI_nn n1) (absI_le n1 a1 a2) (show 0 ≤ d2 by omega) c4
  have m2 := mul_bd _ _ 1000000000000000000 1000000000000000000 (absI_nn n2) (absI_le n2 c1 c2) (show 0 ≤ d1 by omega) a4
  rw [eX] at m1
  rw [eY] at m2
  have w3 : IntKind.u64.wrap d1 = d1 := by rw [IntKind.wrap_u64]; omega
  have w4 : IntKind.u64.wrap d2 = d2 := by rw [IntKind.wrap_u64]; omega
  have dAl := dAl; have dSt := dSt; have xC := ext_cell; have xF := ext_frozen; have xS := ext_set; have xN := ext_drewN; have xD := ext_drew; have xX := ext_ext; have xZ := xs_size
  have hxa0 := xa0; have hxb0 := xb0; have hxc0 := xc0; have hxd0 := xd0; have hxe0 := xe0; have hxf0 := xf0; have hxg0 := xg0; have hxh0 := xh0; have hxi0 := xi0; have hxj0 := xj0; have hxa1 := xa1; have hxb1 := xb1; have hxc1 := xc1; have hxd1 := xd1; have hxe1 := xe1; have hxf1 := xf1; have hxg1 := xg1; have hxh1 := xh1; have hxi1 := xi1; have hxj1 := xj1; have hxa2 := xa2; have hxb2 := xb2; have hxc2 := xc2; have hxd2 := xd2; have hxe2 := xe2; have hxf2 := xf2; have hxg2 := xg2; have hxh2 := xh2; have hxi2 := xi2; have hxj2 := xj2; have hxk0 := xk0; have hxk1 := xk1
  go_enter Try.func49, Try.ntmps49
  go_wp2_with fail
  go_cut [5, 6] (fun s7 s8 wx => ∃ g7 g8 : Nat, s7 = .pointer (some ⟨g7, 0, none⟩) ∧ s8 = .pointer (some ⟨g8, 0, none⟩) ∧
    (wx.cell? ⟨g7, 0, none⟩ = some (.int .u64 (dg0 X)) ∧ wx.cell? ⟨g7, 1, none⟩ = some (.int .u64 (dg1 X)) ∧ wx.cell? ⟨g7, 2, none⟩ = some (.int .u64 (dg2 X)) ∧ wx.cell? ⟨g7, 3, none⟩ = some (.int .u64 (dg3 X)) ∧
    wx.cell? ⟨g8, 0, none⟩ = some (.int .u64 (dg0 Y)) ∧ wx.cell? ⟨g8, 1, none⟩ = some (.int .u64 (dg1 Y)) ∧ wx.cell? ⟨g8, 2, none⟩ = some (.int .u64 (dg2 Y)) ∧ wx.cell? ⟨g8, 3, none⟩ = some (.int .u64 (dg3 Y)) ∧
    wx.cell? ⟨w.heap.size, 0, none⟩ = some (.int .i64 n1)) ∧ Below w.heap.size w wx)
  case first =>
    clear hr hs
    go_region_held3 (fun w' => w'.cell? ⟨w.heap.size, 0, none⟩ = some (.int .i64 n1) ∧ w'.cell? ⟨w.heap.size, 1, none⟩ = some (.int .i64 d1) ∧ w'.cell? ⟨w.heap.size + 1, 0, none⟩ = some (.int .i64 n2) ∧ w'.cell? ⟨w.heap.size + 1, 1, none⟩ = some (.int .i64 d2)) (simp (maxDischargeDepth := 8) [go_sem, World.cell?_alloc_past, ltk2, ltk3, ltk4, ltk5, ltk6, ltk7, ltk8, ltk9, *])
        ((first
          | (go_at_call 52; refine (ref_abs _ (by omega) (by omega) _).mono ?_; rintro e w' ⟨rfl, rfl⟩)
          | (go_at_call 51; refine (ref_Product _ _ (by omega) (by omega) (by omega) (by omega) _).mono ?_; rintro e w' ⟨rfl, o1, o2, o3, o4, o5, o6, nn, hw⟩; obtain ⟨l, d, rfl⟩ := toExt (below6 hw); clear hw)))
    all_goals go_wp2_with fail
    all_goals go_meet
    all_goals refine ⟨_, _, rfl, rfl, by (simp (maxDischargeDepth := 8) [go_sem, World.cell?_alloc_past, ltk2, ltk3, ltk4, ltk5, ltk6, ltk7, ltk8, ltk9, *]), by (repeat (first | with_reducible exact b0 _ | (with_reducible refine bext ?_ _ _) | (with_reducible refine below_drewN ?_ _) | (with_reducible refine Below.drew ?_) | (with_reducible refine bal ?_ _)))⟩
  case rest =>
    obtain ⟨g7, g8, rfl, rfl, ⟨x0, x1, x2, x3, y0, y1, y2, y3, z0⟩, hB⟩ := hcut
    by_cases hn : n1 < 0
    · have HR := Lib.hid (show bigB X Y = r by rw [hr.out, if_pos hn])
      have B := fun w => ref_below Y X m2.1 (by omega) m1.1 (by omega) w
      clear hr hs
      go_wp2_with fail
      refine (B _).mono ?_
      rintro e w1 ⟨rfl, hb⟩
      go_wp2
      go_ret
      exact ⟨ret_bool HR.out, bt hB hb⟩
    · have HR := Lib.hid (show bigB Y X = r by rw [hr.out, if_neg hn])
      have B := fun w => ref_below X Y m1.1 (by omega) m2.1 (by omega) w
      clear hr hs
      go_wp2_with fail
      refine (B _).mono ?_
      rintro e w1 ⟨rfl, hb⟩
      go_wp2
      go_ret
      exact ⟨ret_bool HR.out, bt hB hb⟩

end Go.Proofs.Ytilcgbloangcmaa
