/-
  The sum of the reference.
-/
import Derived.Test.YtilcgbloangcmaaFyh
import Derived.Deep.DeepCutAuto
namespace Go.Proofs.Ytilcgbloangcmaa
open Go.RowKit
set_option linter.unusedVariables false
set_option linter.unusedSimpArgs false

set_option maxRecDepth 100000 in
set_option maxHeartbeats 32000000 in
theorem add_more (n1 d1 n2 d2 g le ri X Y h : Int)
    (a1 : -1000000000000000000 ≤ n1) (a2 : n1 ≤ 1000000000000000000) (a3 : 1 ≤ d1) (a4 : d1 ≤ 1000000000000000000)
    (c1 : -1000000000000000000 ≤ n2) (c2 : n2 ≤ 1000000000000000000) (c3 : 1 ≤ d2) (c4 : d2 ≤ 1000000000000000000)
    (g0 : 0 < g) (g1 : g ≤ 1000000000000000000) (eg : gcdI d1 d2 = g) (e1 : d1 / g = le) (e2 : d2 / g = ri)
    (l0 : 0 ≤ le) (l1 : le ≤ 1000000000000000000) (r0 : 0 ≤ ri) (r1 : ri ≤ 1000000000000000000)
    (eX : absI n1 * ri = X) (eY : absI n2 * le = Y) (hok : chk2 n1 d1 n2 d2 = 0)
    (hsg : (decide (n1 < 0) == decide (n2 < 0)) = false) (hle : Y ≤ X) (eh : gcdI ((X - Y) % g) g = h) (h0 : 0 < h) (h1 : h ≤ 1000000000000000000)
    (q m t : Int) (em : X - Y = m) (eq : m / h = q) (et : d2 / h = t) (t0 : 0 ≤ t) (t1 : t ≤ 1000000000000000000) (hp : q = 0 → le * t = 1) (w : World) :
    Calls Try.prog 34 #[.agg #[.int .i64 n1, .int .i64 d1], .agg #[.int .i64 n2, .int .i64 d2]] w fun e w' =>
      e = .returned (.tuple #[.agg #[.int .i64 (bdN (decide (n1 < 0)) q (le * t)), .int .i64 (bdD false q (le * t))], .int .i64 (bdE q (le * t))]) ∧ Below w.heap.size w w' := by
  have B1 := fun w => ref_Both n1 d1 n2 d2 (by omega) (by omega) (by omega) (by omega) (by omega) (by omega) (by omega) (by omega) w
  rw [hok] at B1
  clear hok
  have B2 := fun w => ref_gcd d1 d2 (by omega) (by omega) (by omega) (by omega) w
  have z1 := absI_bd n1 (by omega) (by omega)
  have z2 := absI_bd n2 (by omega) (by omega)
  have m1 := mul_bd _ _ 1000000000000000000 1000000000000000000 (absI_nn n1) (absI_le n1 a1 a2) r0 r1
  have m2 := mul_bd _ _ 1000000000000000000 1000000000000000000 (absI_nn n2) (absI_le n2 c1 c2) l0 l1
  rw [eX] at m1
  rw [eY] at m2
  have ab1 : -9223372036854775808 ≤ n1 := by omega
  have ab2 : n1 ≤ 9223372036854775807 := by omega
  have ab3 : -9223372036854775808 ≤ n2 := by omega
  have ab4 : n2 ≤ 9223372036854775807 := by omega
  have b1 : (g == 0) = false := by simp; omega
  have b3 : ¬ g = 0 := by omega
  have b4 : ¬ h = 0 := by omega
  have e3t : d2.tdiv h = t := by rw [Int.tdiv_eq_ediv_of_nonneg (by omega)]; exact et
  have w5 : IntKind.u64.wrap t = t := by rw [IntKind.wrap_u64]; omega
  have m0 : 0 ≤ m ∧ m < 340282366920938463463374607431768211456 := by omega
  have q0 : 0 ≤ q ∧ q < 340282366920938463463374607431768211456 := by rw [← eq]; exact ⟨Int.ediv_nonneg (by omega) (by omega), by have := Int.ediv_le_self h (show 0 ≤ m by omega); omega⟩
  have p0 := mul_bd _ _ 1000000000000000000 1000000000000000000 l0 l1 t0 t1
  rw [em] at eh
  have e1t : d1.tdiv g = le := by rw [Int.tdiv_eq_ediv_of_nonneg (by omega)]; exact e1
  have e2t : d2.tdiv g = ri := by rw [Int.tdiv_eq_ediv_of_nonneg (by omega)]; exact e2
  have w1 : IntKind.u64.wrap le = le := by rw [IntKind.wrap_u64]; omega
  have w2 : IntKind.u64.wrap ri = ri := by rw [IntKind.wrap_u64]; omega
  have w3 : IntKind.u64.wrap d1 = d1 := by rw [IntKind.wrap_u64]; omega
  have w4 : IntKind.u64.wrap d2 = d2 := by rw [IntKind.wrap_u64]; omega
  have dAl := dAl; have dSt := dSt; have xC := ext_cell; have xF := ext_frozen; have xS := ext_set; have xN := ext_drewN; have xD := ext_drew; have xX := ext_ext; have xZ := xs_size
  have hxa0 := xa0; have hxb0 := xb0; have hxc0 := xc0; have hxd0 := xd0; have hxe0 := xe0; have hxf0 := xf0; have hxg0 := xg0; have hxh0 := xh0; have hxi0 := xi0; have hxj0 := xj0; have hxa1 := xa1; have hxb1 := xb1; have hxc1 := xc1; have hxd1 := xd1; have hxe1 := xe1; have hxf1 := xf1; have hxg1 := xg1; have hxh1 := xh1; have hxi1 := xi1; have hxj1 := xj1; have hxa2 := xa2; have hxb2 := xb2; have hxc2 := xc2; have hxd2 := xd2; have hxe2 := xe2; have hxf2 := xf2; have hxg2 := xg2; have hxh2 := xh2; have hxi2 := xi2; have hxj2 := xj2; have hxk0 := xk0; have hxk1 := xk1
  go_enter Try.func34, Try.ntmps34
  go_wp2_with fail
  refine (B1 _).mono ?_
  rintro e w1c ⟨rfl, hb1c⟩
  obtain ⟨l1c, d1c, rfl⟩ := toExt hb1c
  clear hb1c
  go_wp2_with fail
  refine (B2 _).mono ?_
  rintro e wz ⟨rfl, k, hw⟩
  have a0 : wz.cell? ⟨w.heap.size, 0, none⟩ = some (.int .i64 n1) := by rw [hw]; (simp (maxDischargeDepth := 8) [go_sem, World.cell?_alloc_past, ltk2, ltk3, ltk4, ltk5, ltk6, ltk7, ltk8, ltk9, *])
  have a1x : wz.cell? ⟨w.heap.size, 1, none⟩ = some (.int .i64 d1) := by rw [hw]; (simp (maxDischargeDepth := 8) [go_sem, World.cell?_alloc_past, ltk2, ltk3, ltk4, ltk5, ltk6, ltk7, ltk8, ltk9, *])
  have b0x : wz.cell? ⟨w.heap.size + 1, 0, none⟩ = some (.int .i64 n2) := by rw [hw]; (simp (maxDischargeDepth := 8) [go_sem, World.cell?_alloc_past, ltk2, ltk3, ltk4, ltk5, ltk6, ltk7, ltk8, ltk9, *])
  have b1x : wz.cell? ⟨w.heap.size + 1, 1, none⟩ = some (.int .i64 d2) := by rw [hw]; (simp (maxDischargeDepth := 8) [go_sem, World.cell?_alloc_past, ltk2, ltk3, ltk4, ltk5, ltk6, ltk7, ltk8, ltk9, *])
  have r0x : wz.cell? ⟨w.heap.size + 1 + 1, 0, none⟩ = some (.int .i64 0) := by rw [hw]; (simp (maxDischargeDepth := 8) [go_sem, World.cell?_alloc_past, ltk2, ltk3, ltk4, ltk5, ltk6, ltk7, ltk8, ltk9, *])
  have r1x : wz.cell? ⟨w.heap.size + 1 + 1, 1, none⟩ = some (.int .i64 0) := by rw [hw]; (simp (maxDischargeDepth := 8) [go_sem, World.cell?_alloc_past, ltk2, ltk3, ltk4, ltk5, ltk6, ltk7, ltk8, ltk9, *])
  have fa0 : wz.frozen? ⟨w.heap.size, 0, none⟩ = false := by rw [hw]; (simp (maxDischargeDepth := 8) [go_sem, World.cell?_alloc_past, ltk2, ltk3, ltk4, ltk5, ltk6, ltk7, ltk8, ltk9, *])
  have fa1 : wz.frozen? ⟨w.heap.size, 1, none⟩ = false := by rw [hw]; (simp (maxDischargeDepth := 8) [go_sem, World.cell?_alloc_past, ltk2, ltk3, ltk4, ltk5, ltk6, ltk7, ltk8, ltk9, *])
  have fb0 : wz.frozen? ⟨w.heap.size + 1, 0, none⟩ = false := by rw [hw]; (simp (maxDischargeDepth := 8) [go_sem, World.cell?_alloc_past, ltk2, ltk3, ltk4, ltk5, ltk6, ltk7, ltk8, ltk9, *])
  have fb1 : wz.frozen? ⟨w.heap.size + 1, 1, none⟩ = false := by rw [hw]; (simp (maxDischargeDepth := 8) [go_sem, World.cell?_alloc_past, ltk2, ltk3, ltk4, ltk5, ltk6, ltk7, ltk8, ltk9, *])
  have fr0 : wz.frozen? ⟨w.heap.size + 1 + 1, 0, none⟩ = false := by rw [hw]; (simp (maxDischargeDepth := 8) [go_sem, World.cell?_alloc_past, ltk2, ltk3, ltk4, ltk5, ltk6, ltk7, ltk8, ltk9, *])
  have fr1 : wz.frozen? ⟨w.heap.size + 1 + 1, 1, none⟩ = false := by rw [hw]; (simp (maxDischargeDepth := 8) [go_sem, World.cell?_alloc_past, ltk2, ltk3, ltk4, ltk5, ltk6, ltk7, ltk8, ltk9, *])
  have hB0 : Below w.heap.size w wz := by rw [hw]; (repeat (first | with_reducible exact b0 _ | (with_reducible refine bext ?_ _ _) | (with_reducible refine below_drewN ?_ _) | (with_reducible refine Below.drew ?_) | (with_reducible refine bal ?_ _)))
  have sz : w.heap.size + 1 + 1 < wz.heap.size := by rw [hw]; simp [ext_size, xs]; try omega
  clear hw B1 B2
  have dz1 : ∀ (W : World) (l : List Obj) (d : Nat), (ext W.drew l d) = (ext W l d) := fun _ _ _ => rfl
  have dz2 : ∀ (W : World) (l : List Obj) (n d : Nat), (ext (W.drewN n) l d) = (ext W l d) := fun _ _ _ _ => rfl
  have sz0 : w.heap.size < wz.heap.size := by omega
  have sz1 : w.heap.size + 1 < wz.heap.size := by omega
  go_wp2_with fail
  go_cut [7, 8] (fun s7 s8 wx => ∃ g7 g8 : Nat, s7 = .pointer (some ⟨g7, 0, none⟩) ∧ s8 = .pointer (some ⟨g8, 0, none⟩) ∧ (wx.cell? ⟨g7, 0, none⟩ = some (.int .u64 (dg0 X)) ∧ wx.cell? ⟨g7, 1, none⟩ = some (.int .u64 (dg1 X)) ∧ wx.cell? ⟨g7, 2, none⟩ = some (.int .u64 (dg2 X)) ∧ wx.cell? ⟨g7, 3, none⟩ = some (.int .u64 (dg3 X)) ∧ wx.cell? ⟨g8, 0, none⟩ = some (.int .u64 (dg0 Y)) ∧ wx.cell? ⟨g8, 1, none⟩ = some (.int .u64 (dg1 Y)) ∧ wx.cell? ⟨g8, 2, none⟩ = some (.int .u64 (dg2 Y)) ∧ wx.cell? ⟨g8, 3, none⟩ = some (.int .u64 (dg3 Y)) ∧ wx.frozen? ⟨g7, 0, none⟩ = false ∧ wx.frozen? ⟨g7, 1, none⟩ = false ∧ wx.frozen? ⟨g7, 2, none⟩ = false ∧ wx.frozen? ⟨g7, 3, none⟩ = false) ∧ (wz.heap.size ≤ g7 ∧ wz.heap.size ≤ g8 ∧ ¬ g7 = g8 ∧ ¬ g8 = g7 ∧ g7 < wx.heap.size ∧ g8 < wx.heap.size) ∧ Below wz.heap.size wz wx)
  case first =>
    clear hp eh h0 h1 em eq et t0 t1 e3t w5 b4 m0 q0 p0 g1 hsg fa0 fa1 fb0 fb1 fr0 fr1 r0x r1x hB0 a1 a2 a3 a4 c1 c2 c3 c4 eg e1 e2 b1
    go_region_held3 (fun w' => w'.cell? ⟨w.heap.size, 0, none⟩ = some (.int .i64 n1) ∧ w'.cell? ⟨w.heap.size, 1, none⟩ = some (.int .i64 d1) ∧ w'.cell? ⟨w.heap.size + 1, 0, none⟩ = some (.int .i64 n2) ∧ w'.cell? ⟨w.heap.size + 1, 1, none⟩ = some (.int .i64 d2)) (simp (maxDischargeDepth := 8) [go_sem, World.cell?_alloc_past, ltk2, ltk3, ltk4, ltk5, ltk6, ltk7, ltk8, ltk9, *])
        ((first
          | (go_at_call 52; refine (ref_abs _ (by assumption) (by assumption) _).mono ?_; rintro e w' ⟨rfl, rfl⟩)
          | (go_at_call 51; refine (ref_Product _ _ (by omega) (by omega) (by omega) (by omega) _).mono ?_; rintro e w' ⟨rfl, o1, o2, o3, o4, o5, o6, nn, hw⟩; obtain ⟨l, d, rfl⟩ := toExt (below6 hw); clear hw)))
    all_goals go_wp2_with fail
    all_goals go_meet
    all_goals refine ⟨_, _, rfl, rfl, by (simp (maxDischargeDepth := 8) [go_sem, World.cell?_alloc_past, ltk2, ltk3, ltk4, ltk5, ltk6, ltk7, ltk8, ltk9, *]), by (simp [ext_size, xs] <;> omega), by (repeat (first | with_reducible exact b0 _ | (with_reducible refine bext ?_ _ _) | (with_reducible refine below_drewN ?_ _) | (with_reducible refine Below.drew ?_) | (with_reducible refine bal ?_ _)))⟩
  case rest =>
    obtain ⟨g7, g8, rfl, rfl, ⟨x0, x1, x2, x3, y0, y1, y2, y3, f0, f1, f2, f3⟩, ⟨s1, s2, s3, s4, s5, s6⟩, hBz⟩ := hcut
    have hB : Below w.heap.size w wc := hB0.trans (hBz.mono (by omega))
    replace a0 := (hBz.cell (p := ⟨w.heap.size, 0, none⟩) sz0).trans a0
    replace a1x := (hBz.cell (p := ⟨w.heap.size, 1, none⟩) sz0).trans a1x
    replace b0x := (hBz.cell (p := ⟨w.heap.size + 1, 0, none⟩) sz1).trans b0x
    replace b1x := (hBz.cell (p := ⟨w.heap.size + 1, 1, none⟩) sz1).trans b1x
    replace r0x := (hBz.cell (p := ⟨w.heap.size + 1 + 1, 0, none⟩) sz).trans r0x
    replace r1x := (hBz.cell (p := ⟨w.heap.size + 1 + 1, 1, none⟩) sz).trans r1x
    replace fa0 := (hBz.frozen (p := ⟨w.heap.size, 0, none⟩) sz0).trans fa0
    replace fa1 := (hBz.frozen (p := ⟨w.heap.size, 1, none⟩) sz0).trans fa1
    replace fb0 := (hBz.frozen (p := ⟨w.heap.size + 1, 0, none⟩) sz1).trans fb0
    replace fb1 := (hBz.frozen (p := ⟨w.heap.size + 1, 1, none⟩) sz1).trans fb1
    replace fr0 := (hBz.frozen (p := ⟨w.heap.size + 1 + 1, 0, none⟩) sz).trans fr0
    replace fr1 := (hBz.frozen (p := ⟨w.heap.size + 1 + 1, 1, none⟩) sz).trans fr1
    replace s1 : w.heap.size + 1 + 1 < g7 := by omega
    replace s2 : w.heap.size + 1 + 1 < g8 := by omega
    have sw : wz.heap.size ≤ wc.heap.size := hBz.size
    have u0 : w.heap.size + 1 + 1 < wc.heap.size := by omega
    clear hBz hB0 sz sz0 sz1 dz1 dz2
    clear hxa0 hxb0 hxc0 hxd0 hxe0 hxf0 hxg0 hxh0 hxi0 hxj0 hxa1 hxb1 hxc1 hxd1 hxe1 hxf1 hxg1 hxh1 hxi1 hxj1 hxa2 hxb2 hxc2 hxd2 hxe2 hxf2 hxg2 hxh2 hxi2 hxj2 hxk0 hxk1 xZ eX eY z1 z2 e1 e2 et
    have xV : ∀ (W : World) (p : Addr) (v : Value), (W.setCell p v).heap.size = W.heap.size := fun W p v => by simp [World.setCell]
    have xL := ext_lt; have xE := ext_ne; have xG := ext_nr; have xL1 := ext_lt1
    have t6 : 0 ≤ m % g := Int.emod_nonneg _ (by omega)
    have t7 : m % g < g := Int.emod_lt_of_pos _ g0
    have q1 : w.heap.size < wc.heap.size := by omega
    have q2 : w.heap.size + 1 < wc.heap.size := by omega
    have q3 : w.heap.size + 1 + 1 < wc.heap.size := by omega
    have q4 : ¬ g7 = w.heap.size := by omega
    have q5 : ¬ g7 = w.heap.size + 1 := by omega
    have q6 : ¬ g7 = w.heap.size + 1 + 1 := by omega
    have q7 : ¬ w.heap.size = g7 := by omega
    have q8 : ¬ w.heap.size + 1 = g7 := by omega
    have q9 : ¬ w.heap.size + 1 + 1 = g7 := by omega
    go_wp2_with fail
    have RB := fun w => ref_below X Y m1.1 (by omega) m2.1 (by omega) w
    rw [show bigB Y X = false by unfold bigB; simp; omega] at RB
    have R1 := fun w => ref_rest X Y m2.1 hle (by omega) w
    have R2 := fun w => ref_Over m g (by omega) (by omega) g0 (by omega) w
    have R3 := fun w => ref_gcd (m % g) g (by omega) (by omega) (by omega) (by omega) w
    have R4 := fun w => ref_Over m h (by omega) (by omega) h0 (by omega) w
    rw [em] at R1
    rw [eh] at R3
    rw [eq] at R4
    clear em eq
    refine (RB _).mono ?_
    rintro e wd ⟨rfl, hb⟩
    have hbd : Below wc.heap.size wc wd := by first | exact hb | exact ((Below.refl _ _).drew).trans hb | exact (below_drewN (Below.refl _ _) _).trans hb
    clear hb RB
    replace x0 := (hbd.cell (p := ⟨g7, 0, none⟩) s5).trans x0
    replace x1 := (hbd.cell (p := ⟨g7, 1, none⟩) s5).trans x1
    replace x2 := (hbd.cell (p := ⟨g7, 2, none⟩) s5).trans x2
    replace x3 := (hbd.cell (p := ⟨g7, 3, none⟩) s5).trans x3
    replace y0 := (hbd.cell (p := ⟨g8, 0, none⟩) s6).trans y0
    replace y1 := (hbd.cell (p := ⟨g8, 1, none⟩) s6).trans y1
    replace y2 := (hbd.cell (p := ⟨g8, 2, none⟩) s6).trans y2
    replace y3 := (hbd.cell (p := ⟨g8, 3, none⟩) s6).trans y3
    replace f0 := (hbd.frozen (p := ⟨g7, 0, none⟩) s5).trans f0
    replace f1 := (hbd.frozen (p := ⟨g7, 1, none⟩) s5).trans f1
    replace f2 := (hbd.frozen (p := ⟨g7, 2, none⟩) s5).trans f2
    replace f3 := (hbd.frozen (p := ⟨g7, 3, none⟩) s5).trans f3
    replace a0 := (hbd.cell (p := ⟨w.heap.size, 0, none⟩) q1).trans a0
    replace a1x := (hbd.cell (p := ⟨w.heap.size, 1, none⟩) q1).trans a1x
    replace b0x := (hbd.cell (p := ⟨w.heap.size + 1, 0, none⟩) q2).trans b0x
    replace b1x := (hbd.cell (p := ⟨w.heap.size + 1, 1, none⟩) q2).trans b1x
    replace r0x := (hbd.cell (p := ⟨w.heap.size + 1 + 1, 0, none⟩) q3).trans r0x
    replace r1x := (hbd.cell (p := ⟨w.heap.size + 1 + 1, 1, none⟩) q3).trans r1x
    replace fa0 := (hbd.frozen (p := ⟨w.heap.size, 0, none⟩) q1).trans fa0
    replace fa1 := (hbd.frozen (p := ⟨w.heap.size, 1, none⟩) q1).trans fa1
    replace fb0 := (hbd.frozen (p := ⟨w.heap.size + 1, 0, none⟩) q2).trans fb0
    replace fb1 := (hbd.frozen (p := ⟨w.heap.size + 1, 1, none⟩) q2).trans fb1
    replace fr0 := (hbd.frozen (p := ⟨w.heap.size + 1 + 1, 0, none⟩) q3).trans fr0
    replace fr1 := (hbd.frozen (p := ⟨w.heap.size + 1 + 1, 1, none⟩) q3).trans fr1
    replace hB : Below w.heap.size w wd := hB.trans (hbd.mono (by omega))
    have sd := hbd.size
    replace s5 : g7 < wd.heap.size := by omega
    replace s6 : g8 < wd.heap.size := by omega
    replace q1 : w.heap.size < wd.heap.size := by omega
    replace q2 : w.heap.size + 1 < wd.heap.size := by omega
    replace q3 : w.heap.size + 1 + 1 < wd.heap.size := by omega
    clear hbd sd u0
    go_wp2_with fail
    refine (R1 _).mono ?_
    rintro e w1 ⟨rfl, hb⟩
    obtain ⟨l1, e1, rfl⟩ := toExt hb
    clear hb
    go_wp2_with fail
    refine (R2 _).mono ?_
    rintro e w1 ⟨rfl, hb⟩
    obtain ⟨l2, e2, rfl⟩ := toExt hb
    clear hb
    go_wp2_with fail
    refine (R3 _).mono ?_
    rintro e w1 ⟨rfl, k2, rfl⟩
    go_wp2_with fail
    refine (R4 _).mono ?_
    rintro e w1 ⟨rfl, hb⟩
    obtain ⟨l3, e3, hw⟩ := toExt hb
    have B1 : Below (w.heap.size + 3) wd w1 := by
      refine Below.trans ?_ (hb.mono ?_)
      · exact below_drewN (((below_ext _ _ _ _ (by simp [World.setCell]; omega)).pre ((((((Below.refl _ _).setCell (by simp; omega) _).setCell (by simp; omega) _).setCell (by simp; omega) _).setCell (by simp; omega) _))).alloc (by simp [World.setCell, ext_size]; omega) _) _
      · simp [ext_size, World.setCell]; omega
    have k0 : w1.cell? ⟨w.heap.size, 0, none⟩ = some (.int .i64 n1) := (B1.cell (by simp)).trans a0
    have k1 : w1.cell? ⟨w.heap.size, 1, none⟩ = some (.int .i64 d1) := (B1.cell (by simp)).trans a1x
    have k2 : w1.cell? ⟨w.heap.size + 1, 0, none⟩ = some (.int .i64 n2) := (B1.cell (by simp)).trans b0x
    have k3 : w1.cell? ⟨w.heap.size + 1, 1, none⟩ = some (.int .i64 d2) := (B1.cell (by simp)).trans b1x
    have k4 : w1.cell? ⟨w.heap.size + 1 + 1, 0, none⟩ = some (.int .i64 0) := (B1.cell (by simp)).trans r0x
    have k5 : w1.cell? ⟨w.heap.size + 1 + 1, 1, none⟩ = some (.int .i64 0) := (B1.cell (by simp)).trans r1x
    have o4 : w1.frozen? ⟨w.heap.size + 1 + 1, 0, none⟩ = false := (B1.frozen (by simp)).trans fr0
    have o5 : w1.frozen? ⟨w.heap.size + 1 + 1, 1, none⟩ = false := (B1.frozen (by simp)).trans fr1
    have o6 : g7 < w1.heap.size := Nat.lt_of_lt_of_le s5 B1.size
    have G : ∀ o, w1.frozen? ⟨g7, o, none⟩ = wd.frozen? ⟨g7, o, none⟩ := by
      intro o
      refine (hb.frozen ?_).trans ?_
      · simp [ext_size, World.setCell]; omega
      · simp [go_sem, *]
    have G0 := (G 0).trans f0
    have G1 := (G 1).trans f1
    have G2 := (G 2).trans f2
    have G3 := (G 3).trans f3
    have C0 : w1.cell? ⟨g7, 0, none⟩ = some (.int .u64 (dg0 m)) := by
      refine (hb.cell ?_).trans ?_
      · simp [ext_size, World.setCell]; omega
      · simp [go_sem, *]
    have C1 : w1.cell? ⟨g7, 1, none⟩ = some (.int .u64 (dg1 m)) := by
      refine (hb.cell ?_).trans ?_
      · simp [ext_size, World.setCell]; omega
      · simp [go_sem, *]
    have C2 : w1.cell? ⟨g7, 2, none⟩ = some (.int .u64 (dg2 m)) := by
      refine (hb.cell ?_).trans ?_
      · simp [ext_size, World.setCell]; omega
      · simp [go_sem, *]
    have C3 : w1.cell? ⟨g7, 3, none⟩ = some (.int .u64 (dg3 m)) := by
      refine (hb.cell ?_).trans ?_
      · simp [ext_size, World.setCell]; omega
      · simp [go_sem, *]
    have B2 : Below w.heap.size w w1 := hB.trans (B1.mono (by omega))
    have o7 : w.heap.size ≤ g7 := by omega
    have o8 : w.heap.size ≤ w.heap.size + 1 + 1 := by omega
    have o1 : w.heap.size < w1.heap.size := by omega
    have o2 : w.heap.size + 1 < w1.heap.size := by omega
    have o3 : w.heap.size + 1 + 1 < w1.heap.size := by omega
    clear hb hw B1 G x0 x1 x2 x3 y0 y1 y2 y3 a0 a1x b0x b1x r0x r1x f0 f1 f2 f3 fa0 fa1 fb0 fb1 fr0 fr1 hB s1 s2 s3 s4 s6 q1 q2 q3 R1 R2 R3 R4 m1 m2 t6 t7
    by_cases hz : q = 0
    · have EB := big_zero q hz
      have n1' : bdN (decide (n1 < 0)) q (le * t) = 0 := by rw [hz, hp hz]; unfold bdN; simp [sv]
      have n2' : bdD false q (le * t) = 1 := by rw [hz, hp hz]; rfl
      have n3' : bdE q (le * t) = 0 := by rw [hz, hp hz]; rfl
      clear hp
      have HZ := Lib.hid hz
      clear hz
      go_wp2_with fail
      refine bodyPost_ret (by simp [results, Try.results34, go_sem, ext_cell, World.cell?_alloc_past, ltk2, ltk3, ltk4, ltk5, ltk6, ltk7, ltk8, ltk9, *]; try rfl) rfl ?_
      exact ⟨ret_fe n1'.symm n2'.symm n3'.symm, (((((B2.setCell o7 _).setCell o7 _).setCell o7 _).setCell o7 _).setCell o8 _).setCell o8 _⟩
    · have EB := big_some q q0.1 q0.2 hz
      clear hp
      have HZ := Lib.hid hz
      clear hz
      go_wp2_with fail
      go_region_held3 (fun w' => w'.cell? ⟨w.heap.size, 0, none⟩ = some (.int .i64 n1) ∧ w'.cell? ⟨w.heap.size, 1, none⟩ = some (.int .i64 d1) ∧ w'.cell? ⟨w.heap.size + 1, 1, none⟩ = some (.int .i64 d2) ∧ w'.cell? ⟨g7, 0, none⟩ = some (.int .u64 (dg0 q)) ∧ w'.cell? ⟨g7, 1, none⟩ = some (.int .u64 (dg1 q)) ∧ w'.cell? ⟨g7, 2, none⟩ = some (.int .u64 (dg2 q)) ∧ w'.cell? ⟨g7, 3, none⟩ = some (.int .u64 (dg3 q))) (simp (maxDischargeDepth := 8) [go_sem, World.cell?_alloc_past, ltk2, ltk3, ltk4, ltk5, ltk6, ltk7, ltk8, ltk9, *])
        ((first
          | (go_at_call 51; refine (ref_Product _ _ (by omega) (by omega) (by omega) (by omega) _).mono ?_; rintro e w' ⟨rfl, o1, o2, o3, o4, o5, o6, nn, hw⟩; obtain ⟨l, d, rfl⟩ := toExt (below6 hw); clear hw)
          | (go_at_call 57; refine (ref_lowest _ _ _ (by omega) (by omega) (by omega) (by omega) _).mono ?_; rintro e w' ⟨rfl, hw⟩; obtain ⟨l, d, rfl⟩ := toExt hw; clear hw)))
      all_goals (try go_wp2_with fail)
      all_goals (try go_wp2)
      all_goals refine bodyPost_ret (by simp [results, Try.results34, go_sem, ext_cell, World.cell?_alloc_past, ltk2, ltk3, ltk4, ltk5, ltk6, ltk7, ltk8, ltk9, *]; try rfl) rfl ?_
      all_goals exact ⟨rfl, ((((((((B2.setCell o7 _).setCell o7 _).setCell o7 _).setCell o7 _).setCell o8 _).setCell o8 _).drew).trans (below_ext _ _ _ _ (by simp [World.setCell, World.drew]; omega)))⟩
end Go.Proofs.Ytilcgbloangcmaa
