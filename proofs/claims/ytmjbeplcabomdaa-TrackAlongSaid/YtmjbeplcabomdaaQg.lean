/-
  
-/
import Derived.Test.YtmjbeplcabomdaaFe
import Derived.IntWalk
import Derived.Deep.DeepCutAuto
namespace Go.Proofs.Ytmjbeplcabomdaa
open Go.RowKit
set_option linter.unusedVariables false
set_option linter.unusedSimpArgs false

theorem wrap_id (x : Int) (h0 : -9223372036854775808 ≤ x) (h1 : x ≤ 9223372036854775807) : IntKind.i64.wrap x = x := IntWalk.i64_in _ (by omega)
end Go.Proofs.Ytmjbeplcabomdaa
namespace Go.Proofs.Ytmjbeplcabomdaa
open Go.RowKit
set_option linter.unusedVariables false
set_option linter.unusedSimpArgs false

set_option maxHeartbeats 3200000 in
theorem sum_core (n1 d1 n2 d2 g le ri m h d2h : Int) (s : Bool)
    (a1 : -9223372036854775808 ≤ n1) (a2 : n1 ≤ 9223372036854775807) (a3 : 1 ≤ d1) (a4 : d1 ≤ 9223372036854775807)
    (c1 : -9223372036854775808 ≤ n2) (c2 : n2 ≤ 9223372036854775807) (c3 : 1 ≤ d2) (c4 : d2 ≤ 9223372036854775807)
    (g0 : 0 < g) (g1 : g ≤ 9223372036854775807) (h0 : 0 < h) (h1 : h ≤ g)
    (l0 : 0 ≤ le) (l1 : le ≤ 9223372036854775807) (r0 : 0 ≤ ri) (r1 : ri ≤ 9223372036854775807) (k0 : 0 ≤ d2h) (k1 : d2h ≤ 9223372036854775807)
    (eg : gcdI d1 d2 = g) (e1 : d1.tdiv g = le) (e2 : d2.tdiv g = ri) (e1' : d1 / g = le) (e2' : d2 / g = ri)
    (es : plN (sgB n1 ri) (absI n1 * absI ri) (sgB n2 le) (absI n2 * absI le) = s)
    (em : plM (sgB n1 ri) (absI n1 * absI ri) (sgB n2 le) (absI n2 * absI le) = m)
    (eh : gcdI (m % g) g = h) (hd : h ∣ m) (e3 : d2.tdiv h = d2h) (w : World) :
    Calls Try.prog 65 #[.agg #[.int .i64 n1, .int .i64 d1], .agg #[.int .i64 n2, .int .i64 d2]] w fun e w' =>
      e = .returned (.tuple #[.agg #[.int .i64 (bdN s (m / h) (absI le * absI d2h)), .int .i64 (bdD (sgB le d2h) (m / h) (absI le * absI d2h))], .int .i64 (bdE (m / h) (absI le * absI d2h))]) ∧ Below w.heap.size w w' := by
  have A1 := fun w => frac_gcd d1 d2 (by omega) (by omega) (by omega) (by omega) w
  have z1 := absI_bd n1 a1 a2
  have z2 := absI_bd n2 c1 c2
  have z3 := absI_bd ri (by omega) (by omega)
  have z4 := absI_bd le (by omega) (by omega)
  have z5 := absI_bd d2h (by omega) (by omega)
  have t1 := mul_bd _ _ 9223372036854775808 9223372036854775808 z1.1 z1.2 z3.1 z3.2
  have t2 := mul_bd _ _ 9223372036854775808 9223372036854775808 z2.1 z2.2 z4.1 z4.2
  have t3 := mul_bd _ _ 9223372036854775808 9223372036854775808 z4.1 z4.2 z5.1 z5.2
  have t4 := plM_bd (sgB n1 ri) (sgB n2 le) (absI n1 * absI ri) (absI n2 * absI le) t1.1 t2.1
  rw [em] at t4
  have t5 : 0 ≤ m / h ∧ m / h ≤ m := ⟨Int.ediv_nonneg t4.1 (by omega), Int.ediv_le_self h t4.1⟩
  have t6 : 0 ≤ m % g ∧ m % g < g := ⟨Int.emod_nonneg m (by omega), Int.emod_lt_of_pos m g0⟩
  have b1 : (g == 0) = false := by simp; omega
  have b2 : (h == 0) = false := by simp; omega
  have b3 : ¬ g = 0 := by omega
  have b4 : ¬ h = 0 := by omega
  have w1 := wrap_id le (by omega) (by omega)
  have w2 := wrap_id ri (by omega) (by omega)
  have h2 : h ≤ 9223372036854775807 := by omega
  have w4 := wrap_id h (by omega) (by omega)
  have w3 := wrap_id d2h (by omega) (by omega)
  have dAl := dAl; have dSt := dSt; have xC := ext_cell; have xF := ext_frozen; have xS := ext_set; have xN := ext_drewN; have xD := ext_drew; have xL := ext_lt; have xE := ext_ne; have xG := ext_nr; have xX := ext_ext; have xL1 := ext_lt1; have xL2 := ext_lt2; have xL3 := ext_lt3; have xM0 := ext_le0; have xM1 := ext_le1; have xM2 := ext_le2
  go_enter Try.func65, Try.ntmps65
  go_wp2_with fail
  refine (A1 _).mono ?_
  rintro e w1 ⟨rfl, k, rfl⟩
  clear A1
  go_wp2_with fail
  go_quiet (fail)
  go_wp2_with fail
  go_cut [9] (fun s9 wx => ∃ g9 : Nat, s9 = .pointer (some ⟨g9, 0, none⟩) ∧ wx.cell? ⟨g9, 0, none⟩ = some (.bool s) ∧ wx.cell? ⟨g9, 1, none⟩ = some (.int .u64 (hiI m)) ∧ wx.cell? ⟨g9, 2, none⟩ = some (.int .u64 (loI m)) ∧ wx.cell? ⟨w.heap.size + 1, 1, none⟩ = some (.int .i64 d2) ∧ wx.cell? ⟨w.heap.size + 1 + 1, 0, none⟩ = some (.int .i64 0) ∧ wx.cell? ⟨w.heap.size + 1 + 1, 1, none⟩ = some (.int .i64 0) ∧ wx.frozen? ⟨w.heap.size + 1 + 1, 0, none⟩ = false ∧ wx.frozen? ⟨w.heap.size + 1 + 1, 1, none⟩ = false ∧ w.heap.size + 1 + 1 < g9 ∧ g9 < wx.heap.size ∧ w.heap.size + 1 + 1 < wx.heap.size ∧ Below w.heap.size w wx)
  case first =>
    go_region_held3 (fun w' => w'.cell? ⟨w.heap.size, 0, none⟩ = some (.int .i64 n1) ∧ w'.cell? ⟨w.heap.size, 1, none⟩ = some (.int .i64 d1) ∧ w'.cell? ⟨w.heap.size + 1, 0, none⟩ = some (.int .i64 n2) ∧ w'.cell? ⟨w.heap.size + 1, 1, none⟩ = some (.int .i64 d2)) (simp (maxDischargeDepth := 8) [go_sem, World.cell?_alloc_past, ltk2, ltk3, ltk4, ltk5, ltk6, ltk7, ltk8, ltk9, *])
        ((first
          | (go_at_call 78; refine (frac_times _ _ (by omega) (by omega) (by omega) (by omega) _).mono ?_; rintro e w' ⟨rfl, c3, rfl⟩)
          | (go_at_call 77; refine (frac_plus _ _ _ _ (by omega) (by omega) (by omega) _).mono ?_; rintro e w' ⟨rfl, hb⟩; obtain ⟨l, d, rfl⟩ := toExt hb; clear hb)))
    all_goals go_wp2_with fail
    all_goals go_meet
    all_goals refine ⟨_, rfl, by (simp (maxDischargeDepth := 8) [go_sem, World.cell?_alloc_past, ltk2, ltk3, ltk4, ltk5, ltk6, ltk7, ltk8, ltk9, *]), by (simp (maxDischargeDepth := 8) [go_sem, World.cell?_alloc_past, ltk2, ltk3, ltk4, ltk5, ltk6, ltk7, ltk8, ltk9, *]), by (simp (maxDischargeDepth := 8) [go_sem, World.cell?_alloc_past, ltk2, ltk3, ltk4, ltk5, ltk6, ltk7, ltk8, ltk9, *]), by (simp (maxDischargeDepth := 8) [go_sem, World.cell?_alloc_past, ltk2, ltk3, ltk4, ltk5, ltk6, ltk7, ltk8, ltk9, *]), by (simp (maxDischargeDepth := 8) [go_sem, World.cell?_alloc_past, ltk2, ltk3, ltk4, ltk5, ltk6, ltk7, ltk8, ltk9, *]), by (simp (maxDischargeDepth := 8) [go_sem, World.cell?_alloc_past, ltk2, ltk3, ltk4, ltk5, ltk6, ltk7, ltk8, ltk9, *]), by (simp (maxDischargeDepth := 8) [go_sem, World.cell?_alloc_past, ltk2, ltk3, ltk4, ltk5, ltk6, ltk7, ltk8, ltk9, *]), by (simp (maxDischargeDepth := 8) [go_sem, World.cell?_alloc_past, ltk2, ltk3, ltk4, ltk5, ltk6, ltk7, ltk8, ltk9, *]), ?_, ?_, ?_, by (repeat (first | with_reducible exact b0 _ | (with_reducible refine bext ?_ _ _) | (with_reducible refine below_drewN ?_ _) | (with_reducible refine Below.drew ?_) | (with_reducible refine bal ?_ _)))⟩
    all_goals (simp [ext_size] <;> omega)
  case rest =>
    obtain ⟨g9, rfl, x1, x2, x3, x4, x5, x6, x7, x8, x0, x9, x10, hB⟩ := hcut
    have ne1 : ¬ (w.heap.size + 1 + 1 = g9) := by omega
    have ne2 : ¬ (g9 = w.heap.size + 1 + 1) := by omega
    have x11 : w.heap.size + 1 < wc.heap.size := by omega
    have x12 : w.heap.size < wc.heap.size := by omega
    have y1 : g9 < wc.heap.size + 1 := by omega
    have v1 : w.heap.size + 1 < wc.heap.size + 1 := by omega
    have u1x : w.heap.size + 1 + 1 < wc.heap.size + 1 := by omega
    have y2 : g9 < wc.heap.size + 1 + 1 := by omega
    have v2 : w.heap.size + 1 < wc.heap.size + 1 + 1 := by omega
    have u2x : w.heap.size + 1 + 1 < wc.heap.size + 1 + 1 := by omega
    have y3 : g9 < wc.heap.size + 1 + 1 + 1 := by omega
    have v3 : w.heap.size + 1 < wc.heap.size + 1 + 1 + 1 := by omega
    have u3x : w.heap.size + 1 + 1 < wc.heap.size + 1 + 1 + 1 := by omega
    have y4 : g9 < wc.heap.size + 1 + 1 + 1 + 1 := by omega
    have v4 : w.heap.size + 1 < wc.heap.size + 1 + 1 + 1 + 1 := by omega
    have u4x : w.heap.size + 1 + 1 < wc.heap.size + 1 + 1 + 1 + 1 := by omega
    have y5 : g9 < wc.heap.size + 1 + 1 + 1 + 1 + 1 := by omega
    have v5 : w.heap.size + 1 < wc.heap.size + 1 + 1 + 1 + 1 + 1 := by omega
    have u5x : w.heap.size + 1 + 1 < wc.heap.size + 1 + 1 + 1 + 1 + 1 := by omega
    have y6 : g9 < wc.heap.size + 1 + 1 + 1 + 1 + 1 + 1 := by omega
    have v6 : w.heap.size + 1 < wc.heap.size + 1 + 1 + 1 + 1 + 1 + 1 := by omega
    have u6x : w.heap.size + 1 + 1 < wc.heap.size + 1 + 1 + 1 + 1 + 1 + 1 := by omega
    have m1 : m < 340282366920938463463374607431768211456 := by omega
    go_wp2_with fail
    refine (frac_rest s m g t4.1 m1 g0 (by omega) _).mono ?_
    rintro e w1 ⟨rfl, c9, k9, rfl⟩
    go_wp2_with fail
    refine (frac_gcd (m % g) g t6.1 (by omega) (by omega) (by omega) _).mono ?_
    rintro e w1 ⟨rfl, k10, rfl⟩
    go_wp2_with fail
    go_region_held3 (fun w' => w'.cell? ⟨g9, 0, none⟩ = some (.bool s) ∧ w'.cell? ⟨g9, 1, none⟩ = some (.int .u64 (hiI m)) ∧ w'.cell? ⟨g9, 2, none⟩ = some (.int .u64 (loI m)) ∧ w'.cell? ⟨w.heap.size + 1, 1, none⟩ = some (.int .i64 d2)) (simp (maxDischargeDepth := 8) [go_sem, World.cell?_alloc_past, ltk2, ltk3, ltk4, ltk5, ltk6, ltk7, ltk8, ltk9, *])
        ((first
          | (go_at_call 81; refine (frac_over s m h t4.1 m1 h0 (by omega) hd _).mono ?_; rintro e w' ⟨rfl, o1, o2, k11, rfl⟩)
          | (go_at_call 78; refine (frac_times _ _ (by omega) (by omega) (by omega) (by omega) _).mono ?_; rintro e w' ⟨rfl, c3, rfl⟩)
          | (go_at_call 80; refine (frac_build _ _ _ _ t5.1 (by omega) t3.1 (by omega) _).mono ?_; rintro e w' ⟨rfl, hb⟩; obtain ⟨l, d, rfl⟩ := toExt hb; clear hb)))
    all_goals go_wp2
    all_goals refine bodyPost_ret (by simp [results, Try.results65, go_sem, ext_cell, World.cell?_alloc_past, ltk2, ltk3, ltk4, ltk5, ltk6, ltk7, ltk8, ltk9, *]; try rfl) rfl ?_
    all_goals refine ⟨rfl, ?_⟩
    all_goals (repeat (first | exact hB | (refine bext ?_ _ _) | (refine below_drewN ?_ _) | (refine Below.drew ?_) | (refine bal ?_ _) | (refine bset ?_ (by simp; omega) _)))
end Go.Proofs.Ytmjbeplcabomdaa
