/-
  The nearest fraction of the reference.
-/
import Derived.Test.YtbckjccbihnlnaaFow
import Derived.Test.YtbckjccbihnlnaaFnv
import Derived.Deep.DeepCutAuto
import Derived.BigRegion
namespace Go.Proofs.Ytbckjccbihnlnaa
open Go.RowKit
set_option linter.unusedVariables false
set_option linter.unusedSimpArgs false

theorem ex_at {L : List Int} {k : Nat} {x y : Int} (h : L.drop k = exL x y) (hy : 1 ≤ y) : k < L.length ∧ L.getD k 0 = x / y ∧ L.drop (k + 1) = exL y (x % y) := by
  rw [exL_cons x y hy] at h
  have hk : k < L.length := by
    rcases Nat.lt_or_ge k L.length with q | q
    · exact q
    · rw [List.drop_eq_nil_of_le q] at h; cases h
  rw [List.drop_eq_getElem_cons hk] at h
  injection h with h1 h2
  refine ⟨hk, ?_, h2⟩
  rw [List.getD_eq_getElem?_getD, List.getElem?_eq_getElem hk]
  exact h1

set_option maxRecDepth 100000 in
set_option maxHeartbeats 6400000 in
theorem ref_near_core (N D n : Int) (ho : okF N D = true) (hn : 1 ≤ n) (hlt : n < D) (w : World) :
    Calls Try.prog 18 #[.agg #[.int .i64 N, .int .i64 D], .int .i64 n] w fun e w' =>
      ∃ P Q : Int, bestP N D n P Q ∧ e = .returned (.tuple #[.agg #[.int .i64 P, .int .i64 Q], .int .i64 0]) ∧ Below w.heap.size w w' := by
  obtain ⟨hD, hD', hN, hN', hc⟩ := okF_out ho
  have A1 := fun w => ref_Check N D (by omega) (by omega) (by omega) (by omega) w
  rw [show chkI N D = 0 by rw [chkI, if_pos ho]] at A1
  have A2 := fun w => ref_Expand_ok N D ho w
  have HX := exL_cons N D hD
  have hI := Nr.start N D n hD hn
  have hR := Nr.pos hI hD hlt hc
  have u1 : -1000000000000000000 ≤ N / D ∧ N / D ≤ 1000000000000000000 := hI.num1 1000000000000000000 (by omega) hlt hD' hN hN'
  have HI := Lib.hid hI
  have hLen := exL_120 N D (by omega) hD'
  generalize exL N D = L at *
  have hd : Hid (L.drop 1 = exL D (N % D)) := Lib.hid (by rw [HX]; rfl)
  have c0 : L.getD 0 0 = N / D := by rw [HX]; rfl
  have l0 : 0 < L.length := by rw [HX]; simp
  have hne : Hid (L ≠ []) := Lib.hid (by rw [HX]; simp)
  clear HX hI ho
  generalize N / D = F at *
  generalize N % D = R at *
  have dAl := dAl; have dSt := dSt; have xC := ext_cell; have xF := ext_frozen; have xS := ext_set; have xN := ext_drewN; have xD := ext_drew; have xL := ext_lt; have xE := ext_ne; have xG := ext_nr; have xX := ext_ext; have xL1 := ext_lt1; have xL2 := ext_lt2; have xL3 := ext_lt3; have xM0 := ext_le0; have xM1 := ext_le1; have xM2 := ext_le2
  go_enter Try.func18, Try.ntmps18
  go_wp2_with fail
  refine (A1 _).mono ?_
  rintro e w1c ⟨rfl, hb1c⟩
  obtain ⟨l1c, d1c, rfl⟩ := toExt hb1c
  clear hb1c
  clear A1
  go_wp2_with fail
  refine (A2 _).mono ?_
  rintro e w1 ⟨v, B, rfl, hB, hown, hb⟩
  have HB1 : Below w.heap.size w w1 := bt (by (repeat (first | with_reducible exact b0 _ | (with_reducible refine bext ?_ _ _) | (with_reducible refine below_drewN ?_ _) | (with_reducible refine Below.drew ?_) | (with_reducible refine bal ?_ _)))) hb
  obtain ⟨lz, dz, hw⟩ := toExt hb
  have hg := own_cells hown hne.out
  obtain ⟨g, cap, rfl, hgB, hgs, hcell0⟩ := hg
  have hcell := Lib.hid hcell0
  have cl0 : w1.cell? ⟨g, 0, none⟩ = some (.int .i64 F) := by rw [hcell0 0 l0, c0]
  clear hb A2 hown hne hcell0 c0
  have ka : w1.cell? ⟨w.heap.size, 0, none⟩ = some (.int .i64 N) := by rw [hw]; (simp (maxDischargeDepth := 8) [go_sem, World.cell?_alloc_past, ltk2, ltk3, ltk4, ltk5, ltk6, ltk7, ltk8, ltk9, *])
  have kb : w1.cell? ⟨w.heap.size, 1, none⟩ = some (.int .i64 D) := by rw [hw]; (simp (maxDischargeDepth := 8) [go_sem, World.cell?_alloc_past, ltk2, ltk3, ltk4, ltk5, ltk6, ltk7, ltk8, ltk9, *])
  have kc : w1.cell? ⟨w.heap.size + 1, 0, none⟩ = some (.int .i64 0) := by rw [hw]; (simp (maxDischargeDepth := 8) [go_sem, World.cell?_alloc_past, ltk2, ltk3, ltk4, ltk5, ltk6, ltk7, ltk8, ltk9, *])
  have kd : w1.cell? ⟨w.heap.size + 1, 1, none⟩ = some (.int .i64 0) := by rw [hw]; (simp (maxDischargeDepth := 8) [go_sem, World.cell?_alloc_past, ltk2, ltk3, ltk4, ltk5, ltk6, ltk7, ltk8, ltk9, *])
  have ke : w1.frozen? ⟨w.heap.size + 1, 0, none⟩ = false := by rw [hw]; (simp (maxDischargeDepth := 8) [go_sem, World.cell?_alloc_past, ltk2, ltk3, ltk4, ltk5, ltk6, ltk7, ltk8, ltk9, *])
  have kf : w1.frozen? ⟨w.heap.size + 1, 1, none⟩ = false := by rw [hw]; (simp (maxDischargeDepth := 8) [go_sem, World.cell?_alloc_past, ltk2, ltk3, ltk4, ltk5, ltk6, ltk7, ltk8, ltk9, *])
  have sz : w.heap.size + 1 < w1.heap.size := by rw [hw]; simp [ext_size] <;> omega
  have sg : w.heap.size + 1 < g := by simp [ext_size] at hB; omega
  clear hw hB hgB
  have sz0 : w.heap.size < w1.heap.size := by omega
  generalize hll : L.length = len at *
  have len0 : (0 : Int) < (len : Int) := by omega
  go_wp2_with fail
  go_cut [8, 9] (fun s8 s9 wx => ∃ gp gq : Nat, s8 = .pointer (some ⟨gp, 0, none⟩) ∧ s9 = .pointer (some ⟨gq, 0, none⟩) ∧
    (wx.cell? ⟨gp, 0, none⟩ = some (.int .i64 1) ∧ wx.cell? ⟨gp, 1, none⟩ = some (.int .i64 0) ∧ wx.cell? ⟨gq, 0, none⟩ = some (.int .i64 F) ∧ wx.cell? ⟨gq, 1, none⟩ = some (.int .i64 1) ∧
     wx.frozen? ⟨gp, 0, none⟩ = false ∧ wx.frozen? ⟨gp, 1, none⟩ = false ∧ wx.frozen? ⟨gq, 0, none⟩ = false ∧ wx.frozen? ⟨gq, 1, none⟩ = false) ∧
    (w1.heap.size ≤ gp ∧ w1.heap.size ≤ gq ∧ ¬ gp = gq ∧ ¬ gq = gp ∧ gp < wx.heap.size ∧ gq < wx.heap.size) ∧ Below w1.heap.size w1 wx)
  case first =>
    go_region
    all_goals (try go_wp2_with fail)
    all_goals go_meet
    all_goals refine ⟨_, _, rfl, rfl, by (simp (maxDischargeDepth := 8) [go_sem, World.cell?_alloc_past, ltk2, ltk3, ltk4, ltk5, ltk6, ltk7, ltk8, ltk9, *]), by (simp <;> omega), by (repeat (first | with_reducible exact b0 _ | (with_reducible refine bext ?_ _ _) | (with_reducible refine below_drewN ?_ _) | (with_reducible refine Below.drew ?_) | (with_reducible refine bal ?_ _)))⟩
  case rest =>
    obtain ⟨gp, gq, rfl, rfl, ⟨p0c, p1c, q0c, q1c, p0f, p1f, q0f, q1f⟩, ⟨s1, s2, s3, s4, s5, s6⟩, hBz⟩ := hcut
    clear cl0
    go_wp2_with fail
    go_loopg [10] R.toNat (fun kk i wr => ∃ (k : Nat) (s p0 q0 r0 p1 q1 r1 : Int), kk = r1.toNat ∧ i = .int .i64 k ∧ L.drop k = exL r0 r1 ∧ Nr N D n s p0 q0 r0 p1 q1 r1 ∧
      (wr.cell? ⟨gp, 0, none⟩ = some (.int .i64 p0) ∧ wr.cell? ⟨gp, 1, none⟩ = some (.int .i64 q0) ∧ wr.cell? ⟨gq, 0, none⟩ = some (.int .i64 p1) ∧ wr.cell? ⟨gq, 1, none⟩ = some (.int .i64 q1) ∧
       wr.frozen? ⟨gp, 0, none⟩ = false ∧ wr.frozen? ⟨gp, 1, none⟩ = false ∧ wr.frozen? ⟨gq, 0, none⟩ = false ∧ wr.frozen? ⟨gq, 1, none⟩ = false) ∧
      (gp < wr.heap.size ∧ gq < wr.heap.size) ∧ Below w1.heap.size w1 wr)
    case atStart => exact ⟨1, 1, 1, 0, D, F, 1, R, rfl, rfl, hd.out, HI.out, ⟨p0c, p1c, q0c, q1c, p0f, p1f, q0f, q1f⟩, ⟨s5, s6⟩, hBz⟩
    case round =>
      clear p0c p1c q0c q1c p0f p1f q0f q1f hBz s5 s6
      obtain ⟨k, s, p0, q0, r0, p1, q1, r1, rfl, rfl, hdk, hI, ⟨p0c, p1c, q0c, q1c, p0f, p1f, q0f, q1f⟩, ⟨s5, s6⟩, hbr⟩ := hrel
      have hp := hI.pos hD hlt hc
      obtain ⟨hk, hv, hd2⟩ := ex_at hdk hp
      have cl : wr.cell? ⟨g, k, none⟩ = some (.int .i64 (r0 / r1)) := (hbr.cell hgs).trans (by rw [hcell.out k (by omega), hv])
      have szr : w1.heap.size ≤ wr.heap.size := hbr.size
      have KA : wr.cell? ⟨w.heap.size, 0, none⟩ = some (.int .i64 N) := (hbr.cell sz0).trans ka
      have KB : wr.cell? ⟨w.heap.size, 1, none⟩ = some (.int .i64 D) := (hbr.cell sz0).trans kb
      have KC : wr.cell? ⟨w.heap.size + 1, 0, none⟩ = some (.int .i64 0) := (hbr.cell sz).trans kc
      have KD : wr.cell? ⟨w.heap.size + 1, 1, none⟩ = some (.int .i64 0) := (hbr.cell sz).trans kd
      have KE : wr.frozen? ⟨w.heap.size + 1, 0, none⟩ = false := (hbr.frozen sz).trans ke
      have KF : wr.frozen? ⟨w.heap.size + 1, 1, none⟩ = false := (hbr.frozen sz).trans kf
      have o1 : w.heap.size < wr.heap.size := by omega
      have o2 : w.heap.size + 1 < wr.heap.size := by omega
      have o3 : ¬ gp = w.heap.size := by omega
      have o4 : ¬ gq = w.heap.size := by omega
      have o5 : ¬ gp = w.heap.size + 1 := by omega
      have o6 : ¬ gq = w.heap.size + 1 := by omega
      have o7 : ¬ w.heap.size = gp := by omega
      have o8 : ¬ w.heap.size = gq := by omega
      have o9 : ¬ w.heap.size + 1 = gp := by omega
      have oa : ¬ w.heap.size + 1 = gq := by omega
      have hD2 := Lib.hid hd2
      clear hv hd2 hdk
      rw [hll] at hk
      have kl : (k : Int) < (len : Int) := by omega
      have n1 := hI.num1 1000000000000000000 (by omega) hlt hD' hN hN'
      have n0 := hI.num0 1000000000000000000 (by omega) hlt hD' hN hN'
      have i1 := hI.a0; have i2 := hI.a1; have i3 := hI.b0; have i4 := hI.b1; have i5 := hI.c0; have i6 := hI.d0
      have t2 : (n - q0).tdiv q1 = (n - q0) / q1 := Int.tdiv_eq_ediv_of_nonneg (by omega)
      have v1 := div_bd r0 r1 1000000000000000000 (by omega) (by omega) (by omega)
      have v2 := div_bd (n - q0) q1 1000000000000000000 (by omega) (by omega) (by omega)
      have N2 : (q1 == 0) = false := by simp; omega
      have N4 : ¬ q1 = 0 := by omega
      have HBr : Below w.heap.size w wr := HB1.trans (hbr.mono (by omega))
      have dz1 : ∀ (W : World) (l : List Obj) (d : Nat), (ext W.drew l d) = (ext W l d) := fun _ _ _ => rfl
      have dz2 : ∀ (W : World) (l : List Obj) (n d : Nat), (ext (W.drewN n) l d) = (ext W l d) := fun _ _ _ _ => rfl
      by_cases hs : (n - q0) / q1 < r0 / r1
      · have hNb := Nb.of hI hp _ rfl hs hlt hD' hN hN'
        have hNB := Lib.hid hNb
        have y2 := hNb.x2; have y3 := hNb.s; have y4 := hNb.d1; have y5 := hNb.d2; have y6 := hNb.a2; have y7 := hNb.b2; have y8 := hNb.det; have y9 := hNb.sg; have z1 := hNb.f1; have z2 := hNb.f2
        obtain ⟨z3, z4, z5, m0, z6, z7, z8, m3, m4, m5, z9⟩ := hI.last hp _ rfl hs
        clear z3 z4 z5 z6 z7 z8 z9 hNb
        have hs1 : ¬ r0 / r1 ≤ (n - q0) / q1 := by omega
        generalize (n - q0) / q1 = m at *
        generalize r0 / r1 = st at *
        have e1 : -9223372036854775808 ≤ m * p1 ∧ m * p1 ≤ 9223372036854775807 := by omega
        have e2 : 0 ≤ m * q1 ∧ m * q1 ≤ 9223372036854775807 := by omega
        have rb1 : r1 ≤ 1000000000000000000 := by omega
        have rb2 : r0 - m * r1 ≤ 1000000000000000000 := by omega
        generalize hP2 : p0 + m * p1 = P2 at *
        generalize hQ2 : q0 + m * q1 = Q2 at *
        generalize hR2 : r0 - m * r1 = r2 at *
        clear hR2 hI hp m0 m3 m4 m5 i5 i6 n0
        have M1 := Int.mul_nonneg (show 0 ≤ r2 by omega) (show 0 ≤ q1 by omega)
        have M2 := Int.mul_nonneg (show 0 ≤ r1 by omega) (show 0 ≤ Q2 by omega)
        have mb1 : r2 * q1 ≤ 1000000000000000000 := by omega
        have mb2 : r1 * Q2 ≤ 1000000000000000000 := by omega
        have hs2 : (decide (st ≤ m)) = false := by simpa using hs1
        have LS := fun w => ref_Less p1 q1 P2 Q2 n1.1 n1.2 i2 (by omega) y2.1 y2.2 y6 (by omega) w
        clear hs
        have ls9 : (s = 1 ∧ decide (p1 * Q2 < P2 * q1) = true) ∨ (s = -1 ∧ decide (p1 * Q2 < P2 * q1) = false) := by
          rcases y9 with q | q
          · refine Or.inl ⟨q, ?_⟩; subst q; simp; omega
          · refine Or.inr ⟨q, ?_⟩; subst q; simp; omega
        have LSH := Lib.hid ls9
        have HD := Lib.hid y8
        have HU := Lib.hid (And.intro z1 z2)
        have RB := Lib.hid (show 0 ≤ r2 ∧ r2 ≤ 1000000000000000000 ∧ 0 ≤ r1 ∧ r1 ≤ 1000000000000000000 ∧ 0 ≤ r2 * q1 ∧ r2 * q1 ≤ 1000000000000000000 ∧ 0 ≤ r1 * Q2 ∧ r1 * Q2 ≤ 1000000000000000000 from ⟨by omega, by omega, by omega, by omega, by omega, by omega, by omega, by omega⟩)
        clear ls9 y8 y9 y3 z1 z2 M1 M2 mb1 mb2
        generalize hls : decide (p1 * Q2 < P2 * q1) = lsb at *
        clear hls
        go_wp2_with fail
        go_quiet (fail)
        go_wp2_with fail
        refine (LS _).mono ?_
        rintro e w5 ⟨rfl, hb⟩
        obtain ⟨l5, d5, hw⟩ := toExt hb
        clear hb LS
        have X0 : w5.cell? ⟨gp, 0, none⟩ = some (.int .i64 P2) := by rw [hw]; (simp (maxDischargeDepth := 8) [go_sem, World.cell?_alloc_past, ltk2, ltk3, ltk4, ltk5, ltk6, ltk7, ltk8, ltk9, *])
        have X1 : w5.cell? ⟨gp, 1, none⟩ = some (.int .i64 Q2) := by rw [hw]; (simp (maxDischargeDepth := 8) [go_sem, World.cell?_alloc_past, ltk2, ltk3, ltk4, ltk5, ltk6, ltk7, ltk8, ltk9, *])
        have X2 : w5.cell? ⟨gq, 0, none⟩ = some (.int .i64 p1) := by rw [hw]; (simp (maxDischargeDepth := 8) [go_sem, World.cell?_alloc_past, ltk2, ltk3, ltk4, ltk5, ltk6, ltk7, ltk8, ltk9, *])
        have X3 : w5.cell? ⟨gq, 1, none⟩ = some (.int .i64 q1) := by rw [hw]; (simp (maxDischargeDepth := 8) [go_sem, World.cell?_alloc_past, ltk2, ltk3, ltk4, ltk5, ltk6, ltk7, ltk8, ltk9, *])
        have X4 : w5.cell? ⟨w.heap.size, 0, none⟩ = some (.int .i64 N) := by rw [hw]; (simp (maxDischargeDepth := 8) [go_sem, World.cell?_alloc_past, ltk2, ltk3, ltk4, ltk5, ltk6, ltk7, ltk8, ltk9, *])
        have X5 : w5.cell? ⟨w.heap.size, 1, none⟩ = some (.int .i64 D) := by rw [hw]; (simp (maxDischargeDepth := 8) [go_sem, World.cell?_alloc_past, ltk2, ltk3, ltk4, ltk5, ltk6, ltk7, ltk8, ltk9, *])
        have X6 : w5.cell? ⟨w.heap.size + 1, 0, none⟩ = some (.int .i64 0) := by rw [hw]; (simp (maxDischargeDepth := 8) [go_sem, World.cell?_alloc_past, ltk2, ltk3, ltk4, ltk5, ltk6, ltk7, ltk8, ltk9, *])
        have X7 : w5.cell? ⟨w.heap.size + 1, 1, none⟩ = some (.int .i64 0) := by rw [hw]; (simp (maxDischargeDepth := 8) [go_sem, World.cell?_alloc_past, ltk2, ltk3, ltk4, ltk5, ltk6, ltk7, ltk8, ltk9, *])
        have Y0 : w5.frozen? ⟨gp, 0, none⟩ = false := by rw [hw]; (simp (maxDischargeDepth := 8) [go_sem, World.cell?_alloc_past, ltk2, ltk3, ltk4, ltk5, ltk6, ltk7, ltk8, ltk9, *])
        have Y1 : w5.frozen? ⟨gp, 1, none⟩ = false := by rw [hw]; (simp (maxDischargeDepth := 8) [go_sem, World.cell?_alloc_past, ltk2, ltk3, ltk4, ltk5, ltk6, ltk7, ltk8, ltk9, *])
        have Y2 : w5.frozen? ⟨gq, 0, none⟩ = false := by rw [hw]; (simp (maxDischargeDepth := 8) [go_sem, World.cell?_alloc_past, ltk2, ltk3, ltk4, ltk5, ltk6, ltk7, ltk8, ltk9, *])
        have Y3 : w5.frozen? ⟨gq, 1, none⟩ = false := by rw [hw]; (simp (maxDischargeDepth := 8) [go_sem, World.cell?_alloc_past, ltk2, ltk3, ltk4, ltk5, ltk6, ltk7, ltk8, ltk9, *])
        have Y4 : w5.frozen? ⟨w.heap.size + 1, 0, none⟩ = false := by rw [hw]; (simp (maxDischargeDepth := 8) [go_sem, World.cell?_alloc_past, ltk2, ltk3, ltk4, ltk5, ltk6, ltk7, ltk8, ltk9, *])
        have Y5 : w5.frozen? ⟨w.heap.size + 1, 1, none⟩ = false := by rw [hw]; (simp (maxDischargeDepth := 8) [go_sem, World.cell?_alloc_past, ltk2, ltk3, ltk4, ltk5, ltk6, ltk7, ltk8, ltk9, *])
        have HB5 : Below w.heap.size w w5 := by rw [hw]; (repeat (first | with_reducible exact HBr | (with_reducible refine bext ?_ _ _) | (with_reducible refine below_drewN ?_ _) | (with_reducible refine Below.drew ?_) | (with_reducible refine bal ?_ _) | (with_reducible refine bset ?_ (by first | omega | (simp <;> omega)) _)))
        have zz : wr.heap.size ≤ w5.heap.size := by rw [hw]; simp [ext_size, World.setCell]
        have zp : gp < w5.heap.size := by omega
        have zq : gq < w5.heap.size := by omega
        have za : w.heap.size < w5.heap.size := by omega
        have zb : w.heap.size + 1 < w5.heap.size := by omega
        clear hw p0c p1c q0c q1c p0f p1f q0f q1f KA KB KC KD KE KF ka kb kc kd ke kf cl o1 o2 s5 s6
        go_upto_if 102 with fail
        go_cut [] (fun wx => ∃ pl ql ph qh u v : Int, Hid (ph * D - N * qh = u ∧ N * ql - pl * D = v ∧ 0 ≤ u ∧ u ≤ 1000000000000000000 ∧ 0 ≤ v ∧ v ≤ 1000000000000000000 ∧ 0 ≤ v * qh ∧ v * qh ≤ 1000000000000000000 ∧ 0 ≤ u * ql ∧ u * ql ≤ 1000000000000000000 ∧ (v * qh ≤ u * ql → bestP N D n pl ql) ∧ (¬ v * qh ≤ u * ql → bestP N D n ph qh)) ∧
          (wx.cell? ⟨gp, 0, none⟩ = some (.int .i64 pl) ∧ wx.cell? ⟨gp, 1, none⟩ = some (.int .i64 ql) ∧ wx.cell? ⟨gq, 0, none⟩ = some (.int .i64 ph) ∧ wx.cell? ⟨gq, 1, none⟩ = some (.int .i64 qh) ∧
           wx.cell? ⟨w.heap.size, 0, none⟩ = some (.int .i64 N) ∧ wx.cell? ⟨w.heap.size, 1, none⟩ = some (.int .i64 D) ∧ wx.cell? ⟨w.heap.size + 1, 0, none⟩ = some (.int .i64 0) ∧ wx.cell? ⟨w.heap.size + 1, 1, none⟩ = some (.int .i64 0) ∧
           wx.frozen? ⟨w.heap.size + 1, 0, none⟩ = false ∧ wx.frozen? ⟨w.heap.size + 1, 1, none⟩ = false) ∧ w.heap.size + 1 < wx.heap.size ∧ Below w.heap.size w wx)
        case first =>
          rcases LSH.out with ⟨hs9, h9⟩ | ⟨hs9, h9⟩
          · subst hs9; subst h9
            have PK := Lib.hid (pick_hi hNB.out hD)
            clear HI hd hcell hLen hNB
            go_wp2_with fail
            all_goals go_meet
            all_goals
              refine ⟨p1, q1, P2, Q2, r2, r1, ?_, ⟨by (simp (maxDischargeDepth := 8) [go_sem, World.cell?_alloc_past, ltk2, ltk3, ltk4, ltk5, ltk6, ltk7, ltk8, ltk9, *]), by (simp (maxDischargeDepth := 8) [go_sem, World.cell?_alloc_past, ltk2, ltk3, ltk4, ltk5, ltk6, ltk7, ltk8, ltk9, *]), by (simp (maxDischargeDepth := 8) [go_sem, World.cell?_alloc_past, ltk2, ltk3, ltk4, ltk5, ltk6, ltk7, ltk8, ltk9, *]), by (simp (maxDischargeDepth := 8) [go_sem, World.cell?_alloc_past, ltk2, ltk3, ltk4, ltk5, ltk6, ltk7, ltk8, ltk9, *]), by (simp (maxDischargeDepth := 8) [go_sem, World.cell?_alloc_past, ltk2, ltk3, ltk4, ltk5, ltk6, ltk7, ltk8, ltk9, *]), by (simp (maxDischargeDepth := 8) [go_sem, World.cell?_alloc_past, ltk2, ltk3, ltk4, ltk5, ltk6, ltk7, ltk8, ltk9, *]), by (simp (maxDischargeDepth := 8) [go_sem, World.cell?_alloc_past, ltk2, ltk3, ltk4, ltk5, ltk6, ltk7, ltk8, ltk9, *]), by (simp (maxDischargeDepth := 8) [go_sem, World.cell?_alloc_past, ltk2, ltk3, ltk4, ltk5, ltk6, ltk7, ltk8, ltk9, *]), by (simp (maxDischargeDepth := 8) [go_sem, World.cell?_alloc_past, ltk2, ltk3, ltk4, ltk5, ltk6, ltk7, ltk8, ltk9, *]), by (simp (maxDischargeDepth := 8) [go_sem, World.cell?_alloc_past, ltk2, ltk3, ltk4, ltk5, ltk6, ltk7, ltk8, ltk9, *])⟩, by (first | omega | (simp [ext_size, World.setCell] <;> omega)), by (repeat (first | with_reducible exact HB5 | (with_reducible refine bext ?_ _ _) | (with_reducible refine below_drewN ?_ _) | (with_reducible refine Below.drew ?_) | (with_reducible refine bal ?_ _) | (with_reducible refine bset ?_ (by first | omega | (simp <;> omega)) _)))⟩
              obtain ⟨z1, z2⟩ := HU.out
              obtain ⟨t1, t2, t3, t4, t5, t6, t7, t8⟩ := RB.out
              exact ⟨by omega, by omega, by omega, by omega, by omega, by omega, by omega, by omega, by omega, by omega, PK.out.1, PK.out.2⟩
          · subst hs9; subst h9
            have PK := Lib.hid (pick_lo hNB.out hD)
            clear HI hd hcell hLen hNB
            go_wp2_with fail
            all_goals go_meet
            all_goals
              refine ⟨P2, Q2, p1, q1, r1, r2, ?_, ⟨by (simp (maxDischargeDepth := 8) [go_sem, World.cell?_alloc_past, ltk2, ltk3, ltk4, ltk5, ltk6, ltk7, ltk8, ltk9, *]), by (simp (maxDischargeDepth := 8) [go_sem, World.cell?_alloc_past, ltk2, ltk3, ltk4, ltk5, ltk6, ltk7, ltk8, ltk9, *]), by (simp (maxDischargeDepth := 8) [go_sem, World.cell?_alloc_past, ltk2, ltk3, ltk4, ltk5, ltk6, ltk7, ltk8, ltk9, *]), by (simp (maxDischargeDepth := 8) [go_sem, World.cell?_alloc_past, ltk2, ltk3, ltk4, ltk5, ltk6, ltk7, ltk8, ltk9, *]), by (simp (maxDischargeDepth := 8) [go_sem, World.cell?_alloc_past, ltk2, ltk3, ltk4, ltk5, ltk6, ltk7, ltk8, ltk9, *]), by (simp (maxDischargeDepth := 8) [go_sem, World.cell?_alloc_past, ltk2, ltk3, ltk4, ltk5, ltk6, ltk7, ltk8, ltk9, *]), by (simp (maxDischargeDepth := 8) [go_sem, World.cell?_alloc_past, ltk2, ltk3, ltk4, ltk5, ltk6, ltk7, ltk8, ltk9, *]), by (simp (maxDischargeDepth := 8) [go_sem, World.cell?_alloc_past, ltk2, ltk3, ltk4, ltk5, ltk6, ltk7, ltk8, ltk9, *]), by (simp (maxDischargeDepth := 8) [go_sem, World.cell?_alloc_past, ltk2, ltk3, ltk4, ltk5, ltk6, ltk7, ltk8, ltk9, *]), by (simp (maxDischargeDepth := 8) [go_sem, World.cell?_alloc_past, ltk2, ltk3, ltk4, ltk5, ltk6, ltk7, ltk8, ltk9, *])⟩, by (first | omega | (simp [ext_size, World.setCell] <;> omega)), by (repeat (first | with_reducible exact HB5 | (with_reducible refine bext ?_ _ _) | (with_reducible refine below_drewN ?_ _) | (with_reducible refine Below.drew ?_) | (with_reducible refine bal ?_ _) | (with_reducible refine bset ?_ (by first | omega | (simp <;> omega)) _)))⟩
              obtain ⟨z1, z2⟩ := HU.out
              obtain ⟨t1, t2, t3, t4, t5, t6, t7, t8⟩ := RB.out
              exact ⟨by omega, by omega, by omega, by omega, by omega, by omega, by omega, by omega, by omega, by omega, PK.out.1, PK.out.2⟩
        case rest =>
          obtain ⟨pl, ql, ph, qh, u, v, HH, ⟨Z0, Z1, Z2, Z3, Z4, Z5, Z6, Z7, ZY4, ZY5⟩, zb2, HB6⟩ := hcut
          obtain ⟨r1x, r2x, r3x, r4x, r5x, r6x, r7x, r8x, r9x, rax, P1, P2⟩ := HH.out
          have PP := Lib.hid (And.intro P1 P2)
          obtain ⟨wu1, wu2, wu3, wu4⟩ := wrap_diff (ph * D) (N * qh) u r1x (by omega) (by omega)
          obtain ⟨wv1, wv2, wv3, wv4⟩ := wrap_diff (N * ql) (pl * D) v r2x (by omega) (by omega)
          have i9 : 0 ≤ u := r3x
          clear HH P1 P2 r1x r2x LSH HD HU RB hNB HI hd hcell hLen hbr HBr HB1 X0 X1 X2 X3 X4 X5 X6 X7 Y0 Y1 Y2 Y3 Y4 Y5 HB5
          clear xC xF xS xN xD xL xE xG xX xL1 xL2 xL3 xM0 xM1 xM2 dz1 dz2 hD2 n1 i1 i2 i3 i4 N2 N4 v1 v2 e1 e2 t2 y2 y4 y5 y6 y7 hs1 hs2 rb1 hP2 hQ2 kl hk hll l0 len0
          go_wp2_with fail
          go_quiet (fail)
          go_wp2_with fail
          all_goals refine bodyPost_ret (by simp [results, Try.results18, go_sem, ext_cell, World.cell?_alloc_past, ltk2, ltk3, ltk4, ltk5, ltk6, ltk7, ltk8, ltk9, *]; try rfl) rfl ?_
          all_goals first
            | exact ⟨_, _, PP.out.1 (by assumption), rfl, by (repeat (first | with_reducible exact HB6 | (with_reducible refine bext ?_ _ _) | (with_reducible refine below_drewN ?_ _) | (with_reducible refine Below.drew ?_) | (with_reducible refine bal ?_ _) | (with_reducible refine bset ?_ (by first | omega | (simp <;> omega)) _)))⟩
            | exact ⟨_, _, PP.out.2 (by omega), rfl, by (repeat (first | with_reducible exact HB6 | (with_reducible refine bext ?_ _ _) | (with_reducible refine below_drewN ?_ _) | (with_reducible refine Below.drew ?_) | (with_reducible refine bal ?_ _) | (with_reducible refine bset ?_ (by first | omega | (simp <;> omega)) _)))⟩
      · obtain ⟨hI', em, m1, m2, m3⟩ := hI.step hp _ rfl (by omega)
        have n2 := hI'.num1 1000000000000000000 (by omega) hlt hD' hN hN'
        have n3 := hI'.b1
        have n4 := hI'.c1
        have hE := Lib.hid hI'
        have em2 : r0 - r0 / r1 * r1 < r1 := by rw [em]; exact Int.emod_lt_of_pos _ (by omega)
        have hem := Lib.hid em2
        have hp2 := Lib.hid hI'.c1
        rw [← em] at hD2
        have w1x : -9223372036854775808 ≤ r0 / r1 * p1 ∧ r0 / r1 * p1 ≤ 9223372036854775807 := by omega
        have w2x : -9223372036854775808 ≤ r0 / r1 * q1 ∧ r0 / r1 * q1 ≤ 9223372036854775807 := by omega
        have w3x : -9223372036854775808 ≤ p0 + r0 / r1 * p1 ∧ p0 + r0 / r1 * p1 ≤ 9223372036854775807 := by omega
        have w4x : -9223372036854775808 ≤ q0 + r0 / r1 * q1 ∧ q0 + r0 / r1 * q1 ≤ 9223372036854775807 := by omega
        have hs2 : r0 / r1 ≤ (n - q0) / q1 := by omega
        generalize (n - q0) / q1 = m at *
        generalize r0 / r1 = st at *
        clear hI' em m1 m2 m3 n2 n3 n4 em2 hI n1 n0 hs
        go_wp2_with fail
        go_quiet (fail)
        go_wp2_with fail
        go_region
        all_goals (try go_wp2)
        all_goals go_roundg (r0 - st * r1).toNat
        all_goals first
          | (have h5 := hem.out; have h6 := hp2.out; omega)
          | exact ⟨k + 1, -s, p1, q1, r1, _, _, _, rfl, by go_num, hD2.out, hE.out, by (simp (maxDischargeDepth := 8) [go_sem, World.cell?_alloc_past, ltk2, ltk3, ltk4, ltk5, ltk6, ltk7, ltk8, ltk9, *]), by first | omega | (simp [ext_size, World.setCell] <;> omega), by (repeat (first | with_reducible exact hbr | (with_reducible refine bext ?_ _ _) | (with_reducible refine below_drewN ?_ _) | (with_reducible refine Below.drew ?_) | (with_reducible refine bal ?_ _) | (with_reducible refine bset ?_ (by first | omega | (simp <;> omega)) _)))⟩
end Go.Proofs.Ytbckjccbihnlnaa
