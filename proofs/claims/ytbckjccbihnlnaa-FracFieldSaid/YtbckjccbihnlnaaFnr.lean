/-
  The nearest fraction of package frac.
-/
import Derived.Test.YtbckjccbihnlnaaFx
import Derived.Test.YtbckjccbihnlnaaFh
import Derived.Deep.LoopGhost
import Derived.Deep.RegionLaw
namespace Go.Proofs.Ytbckjccbihnlnaa
open Go.RowKit
set_option linter.unusedVariables false
set_option linter.unusedSimpArgs false

/-- The two neighbours in the end. -/
structure Nb (N D n e p1 q1 r1 p2 q2 r2 : Int) : Prop where
  sg : e = 1 ∨ e = -1
  det : p2 * q1 - p1 * q2 = e
  f1 : r1 = e * (N * q1 - p1 * D)
  f2 : r2 = -e * (N * q2 - p2 * D)
  a1 : 1 ≤ q1
  a2 : 1 ≤ q2
  b1 : q1 ≤ n
  b2 : q2 ≤ n
  c : n < q2 + q1
  d1 : 1 ≤ r1
  d2 : 1 ≤ r2
  s : r2 * q1 + r1 * q2 = D
  x1 : -1000000000000000000 ≤ p1 ∧ p1 ≤ 1000000000000000000
  x2 : -1000000000000000000 ≤ p2 ∧ p2 ≤ 1000000000000000000

theorem Nb.of {N D n e p0 q0 r0 p1 q1 r1 : Int} (h : Nr N D n e p0 q0 r0 p1 q1 r1) (hr : 1 ≤ r1) (k : Int) (hk : k = (n - q0) / q1) (hlt : k < r0 / r1)
    (hn : n < D) (hD : D ≤ 1000000000000000000) (h0 : -1000000000000000000 ≤ N) (h1 : N ≤ 1000000000000000000) : Nb N D n e p1 q1 r1 (p0 + k * p1) (q0 + k * q1) (r0 - k * r1) := by
  obtain ⟨g1, g2, g3, g4, g5, g6, g7, g8, g9, g10, g11⟩ := h.last hr k hk hlt
  have := h.d0
  exact ⟨h.sg, g2, h.f1, g3, h.a1, g5, h.b1, g6, g7, hr, by omega, g11, h.num1 _ (by omega) hn hD h0 h1, num_bd N D n _ _ (r0 - k * r1) (-e) _ (by omega) g1 g3 (by omega) (by omega) (by omega) g6 hn hD h0 h1⟩

set_option maxHeartbeats 800000 in
theorem frac_toward (p0 q0 r0 p1 q1 r1 k a b c : Int) (e1 : k * p1 = a) (e2 : k * q1 = b) (e3 : k * r1 = c)
    (a1 : -9223372036854775808 ≤ a) (a2 : a ≤ 9223372036854775807) (b1 : -9223372036854775808 ≤ b) (b2 : b ≤ 9223372036854775807) (c1 : -9223372036854775808 ≤ c) (c2 : c ≤ 9223372036854775807)
    (d1 : -9223372036854775808 ≤ p0 + a) (d2 : p0 + a ≤ 9223372036854775807) (f1 : -9223372036854775808 ≤ q0 + b) (f2 : q0 + b ≤ 9223372036854775807) (g1 : -9223372036854775808 ≤ r0 - c) (g2 : r0 - c ≤ 9223372036854775807) (w : World) :
    Calls Try.prog 111 #[.agg #[.int .i64 p0, .int .i64 q0, .int .i64 r0], .agg #[.int .i64 p1, .int .i64 q1, .int .i64 r1], .int .i64 k] w fun e w' =>
      e = .returned (.agg #[.int .i64 (p0 + a), .int .i64 (q0 + b), .int .i64 (r0 - c)]) ∧ Below w.heap.size w w' := by
  go_enter Try.func111, Try.ntmps111
  go_wp2
  go_returns
  exact ⟨rfl, by (repeat (first | with_reducible exact b0 _ | (with_reducible refine bext ?_ _ _) | (with_reducible refine below_drewN ?_ _) | (with_reducible refine Below.drew ?_) | (with_reducible refine bal ?_ _)))⟩

set_option maxRecDepth 100000 in
set_option maxHeartbeats 3200000 in
theorem frac_around (N D n : Int) (hN : -1000000000000000000 ≤ N) (hN' : N ≤ 1000000000000000000) (hD : 1 ≤ D) (hD' : D ≤ 1000000000000000000) (hn : 1 ≤ n) (hlt : n < D) (hc : gcdI N D = 1) (w : World) :
    Calls Try.prog 69 #[.agg #[.int .i64 N, .int .i64 D], .int .i64 n] w fun e w' =>
      ∃ s p1 q1 r1 p2 q2 r2 : Int, Nb N D n s p1 q1 r1 p2 q2 r2 ∧ e = .returned (.tuple #[.agg #[.int .i64 p1, .int .i64 q1, .int .i64 r1], .agg #[.int .i64 p2, .int .i64 q2, .int .i64 r2]]) ∧ Below w.heap.size w w' := by
  have A1 := fun w => frac_split N D (by omega) (by omega) hD (by omega) w
  have hI := Nr.start N D n hD hn
  have u1 := Int.emod_nonneg N (show D ≠ 0 by omega)
  generalize N / D = F at *
  generalize N % D = R at *
  have dAl := dAl; have dSt := dSt; have xC := ext_cell; have xF := ext_frozen; have xS := ext_set; have xN := ext_drewN; have xD := ext_drew; have xL := ext_lt; have xE := ext_ne; have xG := ext_nr; have xX := ext_ext; have xL1 := ext_lt1; have xL2 := ext_lt2; have xL3 := ext_lt3; have xM0 := ext_le0; have xM1 := ext_le1; have xM2 := ext_le2
  go_enter Try.func69, Try.ntmps69
  go_wp2_with fail
  refine (A1 _).mono ?_
  rintro e w1 ⟨rfl, hb⟩
  have HB1 : Below w.heap.size w w1 := bt (by (repeat (first | with_reducible exact b0 _ | (with_reducible refine bext ?_ _ _) | (with_reducible refine below_drewN ?_ _) | (with_reducible refine Below.drew ?_) | (with_reducible refine bal ?_ _)))) hb
  obtain ⟨lz, dz, hw⟩ := toExt hb
  clear hb A1
  have ka : w1.cell? ⟨w.heap.size, 1, none⟩ = some (.int .i64 D) := by rw [hw]; (simp (maxDischargeDepth := 8) [go_sem, World.cell?_alloc_past, ltk2, ltk3, ltk4, ltk5, ltk6, ltk7, ltk8, ltk9, *])
  have s0 : w1.cell? ⟨w.heap.size + 1, 0, none⟩ = some (.int .i64 0) := by rw [hw]; (simp (maxDischargeDepth := 8) [go_sem, World.cell?_alloc_past, ltk2, ltk3, ltk4, ltk5, ltk6, ltk7, ltk8, ltk9, *])
  have s1 : w1.cell? ⟨w.heap.size + 1, 1, none⟩ = some (.int .i64 0) := by rw [hw]; (simp (maxDischargeDepth := 8) [go_sem, World.cell?_alloc_past, ltk2, ltk3, ltk4, ltk5, ltk6, ltk7, ltk8, ltk9, *])
  have s2 : w1.cell? ⟨w.heap.size + 1, 2, none⟩ = some (.int .i64 0) := by rw [hw]; (simp (maxDischargeDepth := 8) [go_sem, World.cell?_alloc_past, ltk2, ltk3, ltk4, ltk5, ltk6, ltk7, ltk8, ltk9, *])
  have s3 : w1.cell? ⟨w.heap.size + 1 + 1, 0, none⟩ = some (.int .i64 0) := by rw [hw]; (simp (maxDischargeDepth := 8) [go_sem, World.cell?_alloc_past, ltk2, ltk3, ltk4, ltk5, ltk6, ltk7, ltk8, ltk9, *])
  have s4 : w1.cell? ⟨w.heap.size + 1 + 1, 1, none⟩ = some (.int .i64 0) := by rw [hw]; (simp (maxDischargeDepth := 8) [go_sem, World.cell?_alloc_past, ltk2, ltk3, ltk4, ltk5, ltk6, ltk7, ltk8, ltk9, *])
  have s5 : w1.cell? ⟨w.heap.size + 1 + 1, 2, none⟩ = some (.int .i64 0) := by rw [hw]; (simp (maxDischargeDepth := 8) [go_sem, World.cell?_alloc_past, ltk2, ltk3, ltk4, ltk5, ltk6, ltk7, ltk8, ltk9, *])
  have f0 : w1.frozen? ⟨w.heap.size + 1, 0, none⟩ = false := by rw [hw]; (simp (maxDischargeDepth := 8) [go_sem, World.cell?_alloc_past, ltk2, ltk3, ltk4, ltk5, ltk6, ltk7, ltk8, ltk9, *])
  have f1 : w1.frozen? ⟨w.heap.size + 1, 1, none⟩ = false := by rw [hw]; (simp (maxDischargeDepth := 8) [go_sem, World.cell?_alloc_past, ltk2, ltk3, ltk4, ltk5, ltk6, ltk7, ltk8, ltk9, *])
  have f2 : w1.frozen? ⟨w.heap.size + 1, 2, none⟩ = false := by rw [hw]; (simp (maxDischargeDepth := 8) [go_sem, World.cell?_alloc_past, ltk2, ltk3, ltk4, ltk5, ltk6, ltk7, ltk8, ltk9, *])
  have f3 : w1.frozen? ⟨w.heap.size + 1 + 1, 0, none⟩ = false := by rw [hw]; (simp (maxDischargeDepth := 8) [go_sem, World.cell?_alloc_past, ltk2, ltk3, ltk4, ltk5, ltk6, ltk7, ltk8, ltk9, *])
  have f4 : w1.frozen? ⟨w.heap.size + 1 + 1, 1, none⟩ = false := by rw [hw]; (simp (maxDischargeDepth := 8) [go_sem, World.cell?_alloc_past, ltk2, ltk3, ltk4, ltk5, ltk6, ltk7, ltk8, ltk9, *])
  have f5 : w1.frozen? ⟨w.heap.size + 1 + 1, 2, none⟩ = false := by rw [hw]; (simp (maxDischargeDepth := 8) [go_sem, World.cell?_alloc_past, ltk2, ltk3, ltk4, ltk5, ltk6, ltk7, ltk8, ltk9, *])
  have sz : w.heap.size + 1 + 1 < w1.heap.size := by rw [hw]; simp [ext_size] <;> omega
  clear hw
  have sz0 : w.heap.size < w1.heap.size := by omega
  have sz1 : w.heap.size + 1 < w1.heap.size := by omega
  go_wp2_with fail
  go_loopg [] R.toNat (fun k wr => ∃ s p0 q0 r0 p1 q1 r1 : Int, k = r1.toNat ∧ Nr N D n s p0 q0 r0 p1 q1 r1 ∧
    (wr.cell? ⟨w1.heap.size, 0, none⟩ = some (.int .i64 p0) ∧ wr.cell? ⟨w1.heap.size, 1, none⟩ = some (.int .i64 q0) ∧ wr.cell? ⟨w1.heap.size, 2, none⟩ = some (.int .i64 r0) ∧
     wr.cell? ⟨w1.heap.size + 1, 0, none⟩ = some (.int .i64 p1) ∧ wr.cell? ⟨w1.heap.size + 1, 1, none⟩ = some (.int .i64 q1) ∧ wr.cell? ⟨w1.heap.size + 1, 2, none⟩ = some (.int .i64 r1) ∧
     wr.frozen? ⟨w1.heap.size, 0, none⟩ = false ∧ wr.frozen? ⟨w1.heap.size, 1, none⟩ = false ∧ wr.frozen? ⟨w1.heap.size, 2, none⟩ = false ∧
     wr.frozen? ⟨w1.heap.size + 1, 0, none⟩ = false ∧ wr.frozen? ⟨w1.heap.size + 1, 1, none⟩ = false ∧ wr.frozen? ⟨w1.heap.size + 1, 2, none⟩ = false) ∧
    w1.heap.size + 1 < wr.heap.size ∧ Below w1.heap.size w1 wr)
  case atStart => exact ⟨1, 1, 0, D, F, 1, R, rfl, hI, by (simp (maxDischargeDepth := 8) [go_sem, World.cell?_alloc_past, ltk2, ltk3, ltk4, ltk5, ltk6, ltk7, ltk8, ltk9, *]), by simp <;> omega, by (repeat (first | with_reducible exact b0 _ | (with_reducible refine bext ?_ _ _) | (with_reducible refine below_drewN ?_ _) | (with_reducible refine Below.drew ?_) | (with_reducible refine bal ?_ _)))⟩
  case round =>
    obtain ⟨s, p0, q0, r0, p1, q1, r1, rfl, hI, ⟨k0, k1, k2, l0, l1, l2, g0, g1, g2, h0, h1, h2⟩, hsz, hbr⟩ := hrel
    have hp := hI.pos hD hlt hc
    have n1 := hI.num1 1000000000000000000 (by omega) hlt hD' hN hN'
    have n0 := hI.num0 1000000000000000000 (by omega) hlt hD' hN hN'
    have i1 := hI.a0; have i2 := hI.a1; have i3 := hI.b0; have i4 := hI.b1; have i5 := hI.c0; have i6 := hI.d0
    have t1 : r0.tdiv r1 = r0 / r1 := Int.tdiv_eq_ediv_of_nonneg (by omega)
    have t2 : (n - q0).tdiv q1 = (n - q0) / q1 := Int.tdiv_eq_ediv_of_nonneg (by omega)
    have v1 := div_bd r0 r1 1000000000000000000 (by omega) (by omega) (by omega)
    have v2 := div_bd (n - q0) q1 1000000000000000000 (by omega) (by omega) (by omega)
    have N1 : (r1 == 0) = false := by simp; omega
    have N2 : (q1 == 0) = false := by simp; omega
    have S0 : wr.cell? ⟨w.heap.size + 1, 0, none⟩ = some (.int .i64 0) := (hbr.cell sz1).trans s0
    have S1 : wr.cell? ⟨w.heap.size + 1, 1, none⟩ = some (.int .i64 0) := (hbr.cell sz1).trans s1
    have S2 : wr.cell? ⟨w.heap.size + 1, 2, none⟩ = some (.int .i64 0) := (hbr.cell sz1).trans s2
    have S3 : wr.cell? ⟨w.heap.size + 1 + 1, 0, none⟩ = some (.int .i64 0) := (hbr.cell sz).trans s3
    have S4 : wr.cell? ⟨w.heap.size + 1 + 1, 1, none⟩ = some (.int .i64 0) := (hbr.cell sz).trans s4
    have S5 : wr.cell? ⟨w.heap.size + 1 + 1, 2, none⟩ = some (.int .i64 0) := (hbr.cell sz).trans s5
    have F0 : wr.frozen? ⟨w.heap.size + 1, 0, none⟩ = false := (hbr.frozen sz1).trans f0
    have F1 : wr.frozen? ⟨w.heap.size + 1, 1, none⟩ = false := (hbr.frozen sz1).trans f1
    have F2 : wr.frozen? ⟨w.heap.size + 1, 2, none⟩ = false := (hbr.frozen sz1).trans f2
    have F3 : wr.frozen? ⟨w.heap.size + 1 + 1, 0, none⟩ = false := (hbr.frozen sz).trans f3
    have F4 : wr.frozen? ⟨w.heap.size + 1 + 1, 1, none⟩ = false := (hbr.frozen sz).trans f4
    have F5 : wr.frozen? ⟨w.heap.size + 1 + 1, 2, none⟩ = false := (hbr.frozen sz).trans f5
    have o1 : w.heap.size + 1 < wr.heap.size := by omega
    have o2 : w.heap.size + 1 + 1 < wr.heap.size := by omega
    have o3 : w1.heap.size < wr.heap.size := by omega
    have o4 : ¬ w1.heap.size = w.heap.size + 1 := by omega
    have o5 : ¬ w1.heap.size = w.heap.size + 1 + 1 := by omega
    have o6 : ¬ w.heap.size + 1 = w1.heap.size := by omega
    have o7 : ¬ w.heap.size + 1 + 1 = w1.heap.size := by omega
    have dz1 : ∀ (W : World) (l : List Obj) (d : Nat), (ext W.drew l d) = (ext W l d) := fun _ _ _ => rfl
    have dz2 : ∀ (W : World) (l : List Obj) (n d : Nat), (ext (W.drewN n) l d) = (ext W l d) := fun _ _ _ _ => rfl
    clear s0 s1 s2 s3 s4 s5 f0 f1 f2 f3 f4 f5
    have HBr : Below w.heap.size w wr := HB1.trans (hbr.mono (by omega))
    have N3 : ¬ r1 = 0 := by omega
    have N4 : ¬ q1 = 0 := by omega
    have hz1 : r0.tdiv r1 ≤ 1000000000000000000 := by omega
    by_cases hs : (n - q0) / q1 < r0 / r1
    · have hE := Lib.hid (Nb.of hI hp _ rfl hs hlt hD' hN hN')
      have y2 := hE.out.x2
      obtain ⟨z1, z2, z3, m0, m1, m2, z4, m3, m4, m5, z5⟩ := hI.last hp _ rfl hs
      clear z1 z2 z3 z4 z5
      have T := fun w => frac_toward p0 q0 r0 p1 q1 r1 ((n - q0) / q1) _ _ _ rfl rfl rfl (by omega) (by omega) (by omega) (by omega) (by omega) (by omega) (by omega) (by omega) (by omega) (by omega) (by omega) (by omega) w
      generalize (n - q0) / q1 = m at *
      generalize r0 / r1 = st at *
      clear y2 m0 m1 m2 m3 m4 m5 hI n1 n0
      go_wp2_with fail
      go_region_held3 (fun w' => w'.cell? ⟨w1.heap.size, 0, none⟩ = some (.int .i64 p0) ∧ w'.cell? ⟨w1.heap.size, 1, none⟩ = some (.int .i64 q0) ∧ w'.cell? ⟨w1.heap.size, 2, none⟩ = some (.int .i64 r0) ∧ w'.cell? ⟨w1.heap.size + 1, 0, none⟩ = some (.int .i64 p1) ∧ w'.cell? ⟨w1.heap.size + 1, 1, none⟩ = some (.int .i64 q1) ∧ w'.cell? ⟨w1.heap.size + 1, 2, none⟩ = some (.int .i64 r1)) (simp (maxDischargeDepth := 8) [go_sem, World.cell?_alloc_past, ltk2, ltk3, ltk4, ltk5, ltk6, ltk7, ltk8, ltk9, *])
        ((go_at_call 111; with_reducible refine (T _).mono ?_; rintro e w' ⟨rfl, hb⟩; obtain ⟨l, d, rfl⟩ := toExt hb; clear hb))
      all_goals (try go_wp2)
      all_goals refine bodyPost_ret (by simp [results, Try.results69, go_sem, ext_cell, World.cell?_alloc_past, ltk2, ltk3, ltk4, ltk5, ltk6, ltk7, ltk8, ltk9, *]; try rfl) rfl ?_
      all_goals exact ⟨s, p1, q1, r1, _, _, _, hE.out, rfl, by (repeat (first | with_reducible exact HBr | (with_reducible refine bext ?_ _ _) | (with_reducible refine below_drewN ?_ _) | (with_reducible refine Below.drew ?_) | (with_reducible refine bal ?_ _) | (with_reducible refine bset ?_ (by first | omega | (simp <;> omega)) _)))⟩
    · obtain ⟨hI', em, m1, m2, m3⟩ := hI.step hp _ rfl (by omega)
      have n2 := hI'.num1 1000000000000000000 (by omega) hlt hD' hN hN'
      have n3 := hI'.b1
      have n4 := hI'.c1
      have T := fun w => frac_toward p0 q0 r0 p1 q1 r1 (r0 / r1) _ _ _ rfl rfl rfl (by omega) (by omega) (by omega) (by omega) (by omega) (by omega) (by omega) (by omega) (by omega) (by omega) (by omega) (by omega) w
      have hE := Lib.hid hI'
      have em2 : r0 - r0 / r1 * r1 < r1 := by rw [em]; exact Int.emod_lt_of_pos _ (by omega)
      have hem := Lib.hid em2
      have hp2 := Lib.hid hI'.c1
      generalize (n - q0) / q1 = m at *
      generalize r0 / r1 = st at *
      clear hI' em m1 m2 m3 n2 n3 n4 em2 hI n1 n0
      have hs2 : ¬ m < st := hs
      go_wp2_with fail
      go_region_law ((go_simp; go_at_call 111; with_reducible refine (T _).mono ?_; rintro e w' ⟨rfl, hb⟩; obtain ⟨l, d, rfl⟩ := toExt hb; clear hb))
      all_goals (try go_wp2)
      all_goals go_roundg (r0 - st * r1).toNat
      all_goals first
        | (have h5 := hem.out; have h6 := hp2.out; omega)
        | exact ⟨-s, p1, q1, r1, _, _, _, rfl, hE.out, by (simp (maxDischargeDepth := 8) [go_sem, World.cell?_alloc_past, ltk2, ltk3, ltk4, ltk5, ltk6, ltk7, ltk8, ltk9, *]), by first | omega | (simp [ext_size, World.setCell] <;> omega), by (repeat (first | with_reducible exact hbr | (with_reducible refine bext ?_ _ _) | (with_reducible refine below_drewN ?_ _) | (with_reducible refine Below.drew ?_) | (with_reducible refine bal ?_ _) | (with_reducible refine bset ?_ (by first | omega | (simp <;> omega)) _)))⟩
end Go.Proofs.Ytbckjccbihnlnaa
