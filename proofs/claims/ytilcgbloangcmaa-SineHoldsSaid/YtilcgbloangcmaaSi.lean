/-
  SineHolds, walked.
-/
import Derived.Test.YtilcgbloangcmaaSr
import Derived.Test.YtilcgbloangcmaaSh
import Derived.Test.YtilcgbloangcmaaFyz
import Derived.Test.YtilcgbloangcmaaFxq
namespace Go.Proofs.Ytilcgbloangcmaa
open Go.RowKit
set_option linter.unusedVariables false
set_option linter.unusedSimpArgs false

/-- 'The sum has the sum', where neither is out of range. -/
theorem holds_add {a b c e n d p q : Int} (va : spV a b = true) (vb : spV c e = true) (o1 : okF n d = true) (o2 : okF p q = true) (h1 : inB a b n d = true) (h2 : inB c e p q = true) (k1 : saE a b c e = 0) (k2 : adE n d p q = 0) (w : World) :
    Calls Try.prog 33 #[.agg #[.int .i64 (saL a b c e), .int .i64 (saH a b c e)], .agg #[.int .i64 (adN n d p q), .int .i64 (adD n d p q)]] w fun x w' => x = .returned (.bool true) ∧ Below w.heap.size w w' := by
  have hb : bV a b c e = true := by rw [bV, va, vb]; rfl
  rw [saE, if_pos hb] at k1
  obtain ⟨m1, m2, m3⟩ := md_out k1
  obtain ⟨o, hi⟩ := add_in o1 o2 h1 h2 k2
  obtain ⟨s1, s2, s3⟩ := spV_out m3
  rw [saL, saH, if_pos hb, if_pos hb, m1, m2, ← hi]
  exact ref5_In _ _ _ _ s2 (by omega) (by omega) s3 o w
theorem holds_sub {a b c e n d p q : Int} (va : spV a b = true) (vb : spV c e = true) (o1 : okF n d = true) (o2 : okF p q = true) (h1 : inB a b n d = true) (h2 : inB c e p q = true) (k1 : ssE a b c e = 0) (k2 : adE n d (-p) q = 0) (w : World) :
    Calls Try.prog 33 #[.agg #[.int .i64 (ssL a b c e), .int .i64 (ssH a b c e)], .agg #[.int .i64 (adN n d (-p) q), .int .i64 (adD n d (-p) q)]] w fun x w' => x = .returned (.bool true) ∧ Below w.heap.size w w' := by
  have hb : bV a b c e = true := by rw [bV, va, vb]; rfl
  rw [ssE, if_pos hb] at k1
  obtain ⟨m1, m2, m3⟩ := md_out k1
  obtain ⟨o, hi⟩ := sub_in o1 o2 h1 h2 k2
  obtain ⟨s1, s2, s3⟩ := spV_out m3
  rw [ssL, ssH, if_pos hb, if_pos hb, m1, m2, ← hi]
  exact ref5_In _ _ _ _ s2 (by omega) (by omega) s3 o w
theorem holds_mul {a b c e n d p q : Int} (va : spV a b = true) (vb : spV c e = true) (o1 : okF n d = true) (o2 : okF p q = true) (h1 : inB a b n d = true) (h2 : inB c e p q = true) (k1 : smE a b c e = 0) (k2 : muE n d p q = 0) (w : World) :
    Calls Try.prog 33 #[.agg #[.int .i64 (smL a b c e), .int .i64 (smH a b c e)], .agg #[.int .i64 (muN n d p q), .int .i64 (muD n d p q)]] w fun x w' => x = .returned (.bool true) ∧ Below w.heap.size w w' := by
  have hb : bV a b c e = true := by rw [bV, va, vb]; rfl
  rw [smE, if_pos hb] at k1
  obtain ⟨m1, m2, m3⟩ := md_out k1
  obtain ⟨o, hi⟩ := mul_in o1 o2 h1 h2 k2
  obtain ⟨s1, s2, s3⟩ := spV_out m3
  rw [smL, smH, if_pos hb, if_pos hb, m1, m2, ← hi]
  exact ref5_In _ _ _ _ s2 (by omega) (by omega) s3 o w

set_option maxRecDepth 100000 in
set_option maxHeartbeats 3200000 in
theorem holds_main (a b c e n d p q : Int) (va : spV a b = true) (vb : spV c e = true) (o1 : okF n d = true) (o2 : okF p q = true) (w : World) :
    Calls Try.prog 8 #[.agg #[.int .i64 a, .int .i64 b], .agg #[.int .i64 c, .int .i64 e], .agg #[.int .i64 n, .int .i64 d], .agg #[.int .i64 p, .int .i64 q]] w fun x w' => x = .returned (.bool true) ∧ Below w.heap.size w w' := by
  obtain ⟨f1, f2, f3, f4, f5⟩ := okF_out o1
  obtain ⟨g1, g2, g3, g4, g5⟩ := okF_out o2
  obtain ⟨a1, a2, a3⟩ := spV_out va
  obtain ⟨c1, c2, c3⟩ := spV_out vb
  have AL := fun w => law5_alive w
  have A1 := fun w => ref5_Valid a b w
  have A2 := fun w => ref5_Valid c e w
  have A3 := fun w => ref_Both n d p q (by omega) (by omega) (by omega) (by omega) (by omega) (by omega) (by omega) (by omega) w
  have A4 := fun w => sine_Of n d (by omega) (by omega) (by omega) (by omega) w
  have A6 := fun w => ref5_In a b n d a2 (by omega) (by omega) a3 o1 w
  have A7 := fun w => ref5_In c e p q c2 (by omega) (by omega) c3 o2 w
  have A8 := fun w => sine_Add a b c e w
  have A9 := fun w => sine_Sub a b c e w
  have B1 := fun w => sine_Mul a b c e w
  have B2 := fun w => ref_Add n d p q (by omega) (by omega) (by omega) (by omega) (by omega) (by omega) (by omega) (by omega) w
  have B3 := fun w => ref_Sub n d p q (by omega) (by omega) (by omega) (by omega) (by omega) (by omega) (by omega) (by omega) w
  have B4 := fun w => ref_Mul n d p q (by omega) (by omega) (by omega) (by omega) (by omega) (by omega) (by omega) (by omega) w
  have I1 := fun h1 h2 k1 k2 w => holds_add va vb o1 o2 h1 h2 k1 k2 w
  have I2 := fun h1 h2 k1 k2 w => holds_sub va vb o1 o2 h1 h2 k1 k2 w
  have I3 := fun h1 h2 k1 k2 w => holds_mul va vb o1 o2 h1 h2 k1 k2 w
  rw [va] at A1
  rw [vb] at A2
  rw [chk2, if_pos o1, chkI, if_pos o2] at A3
  rw [ovL, ovH, ovE, if_pos o1, if_pos o1, if_pos o1] at A4
  obtain ⟨l1, l2⟩ := of_least o1
  have lw := of_wid n d
  generalize ofL n d = L at *
  generalize ofH n d = H at *
  have EC : (mdL L H = L ∧ mdH L H = H ∧ mdE L H = 0 ∧ spV L H = true) ∨ (mdL L H = 0 ∧ mdH L H = 0 ∧ mdE L H = 16) := by
    by_cases k : spV L H = true
    · left; rw [mdL, mdH, mdE, if_pos k, if_pos k, if_pos k]; exact ⟨rfl, rfl, rfl, k⟩
    · right; rw [mdL, mdH, mdE, if_neg k, if_neg k, if_neg k]; exact ⟨rfl, rfl, rfl⟩
  have IA := Lib.hid I1; have IB := Lib.hid I2; have IC := Lib.hid I3
  clear I1 I2 I3
  generalize saL a b c e = s0 at *
  generalize saH a b c e = s1 at *
  generalize saE a b c e = s2 at *
  generalize ssL a b c e = t0 at *
  generalize ssH a b c e = t1 at *
  generalize ssE a b c e = t2 at *
  generalize smL a b c e = u0 at *
  generalize smH a b c e = u1 at *
  generalize smE a b c e = u2 at *
  generalize adN n d p q = x0 at *
  generalize adD n d p q = x1 at *
  generalize adE n d p q = x2 at *
  generalize adN n d (-p) q = y0 at *
  generalize adD n d (-p) q = y1 at *
  generalize adE n d (-p) q = y2 at *
  generalize muN n d p q = z0 at *
  generalize muD n d p q = z1 at *
  generalize muE n d p q = z2 at *
  have OK1 := Lib.hid o1
  clear va vb o1 o2 f5 g5
  rcases EC with ⟨m1, m2, m3, m4⟩ | ⟨m1, m2, m3⟩
  all_goals rw [m1, m2, m3] at A4
  all_goals clear m1 m2 m3
  ·
    obtain ⟨n1, n2, n3⟩ := spV_out m4
    have h9 : haV L H n d = true := by rw [haV, m4, OK1.out, l1]; rfl
    have h8 : haE L H n d = 0 := by rw [haE, if_pos ⟨m4, OK1.out⟩]
    have A5 := fun w => sine_Has L H n d (by omega) (by omega) (by omega) (by omega) w
    have C1 := fun w => ref5_In L L n d n2 (by omega) n2 (by omega) OK1.out w
    have C2 := fun w => ref5_In H H n d (by omega) n3 (by omega) n3 OK1.out w
    rw [h9, h8] at A5
    have LL := Lib.hid l2
    clear h9 h8 m4 l1 l2
    have dAl := dAl; have dSt := dSt; have xC := ext_cell; have xF := ext_frozen; have xS := ext_set; have xN := ext_drewN; have xD := ext_drew; have xL := ext_lt; have xE := ext_ne; have xG := ext_nr; have xX := ext_ext; have xL1 := ext_lt1; have xL2 := ext_lt2; have xL3 := ext_lt3; have xM0 := ext_le0; have xM1 := ext_le1; have xM2 := ext_le2
    go_enter Try.func8, Try.ntmps8
    go_wp2_with fail
    with_reducible refine (A1 _).mono ?_
    rintro e v1 ⟨rfl, hb1⟩
    have zz1 := hb1.size
    try simp [ext_size] at zz1
    have cc1_0 : v1.cell? ⟨w.heap.size, 0, none⟩ = some (.int .i64 a) := (hb1.cell (p := ⟨w.heap.size, 0, none⟩) (by first | omega | (simp [ext_size]; try omega))).trans (by (simp (maxDischargeDepth := 8) [go_sem, World.cell?_alloc_past, ltk2, ltk3, ltk4, ltk5, ltk6, ltk7, ltk8, ltk9, *]))
    have cc1_1 : v1.cell? ⟨w.heap.size, 1, none⟩ = some (.int .i64 b) := (hb1.cell (p := ⟨w.heap.size, 1, none⟩) (by first | omega | (simp [ext_size]; try omega))).trans (by (simp (maxDischargeDepth := 8) [go_sem, World.cell?_alloc_past, ltk2, ltk3, ltk4, ltk5, ltk6, ltk7, ltk8, ltk9, *]))
    have cc1_2 : v1.cell? ⟨w.heap.size + 1, 0, none⟩ = some (.int .i64 c) := (hb1.cell (p := ⟨w.heap.size + 1, 0, none⟩) (by first | omega | (simp [ext_size]; try omega))).trans (by (simp (maxDischargeDepth := 8) [go_sem, World.cell?_alloc_past, ltk2, ltk3, ltk4, ltk5, ltk6, ltk7, ltk8, ltk9, *]))
    have cc1_3 : v1.cell? ⟨w.heap.size + 1, 1, none⟩ = some (.int .i64 e) := (hb1.cell (p := ⟨w.heap.size + 1, 1, none⟩) (by first | omega | (simp [ext_size]; try omega))).trans (by (simp (maxDischargeDepth := 8) [go_sem, World.cell?_alloc_past, ltk2, ltk3, ltk4, ltk5, ltk6, ltk7, ltk8, ltk9, *]))
    have cc1_4 : v1.cell? ⟨w.heap.size + 1 + 1, 0, none⟩ = some (.int .i64 n) := (hb1.cell (p := ⟨w.heap.size + 1 + 1, 0, none⟩) (by first | omega | (simp [ext_size]; try omega))).trans (by (simp (maxDischargeDepth := 8) [go_sem, World.cell?_alloc_past, ltk2, ltk3, ltk4, ltk5, ltk6, ltk7, ltk8, ltk9, *]))
    have cc1_5 : v1.cell? ⟨w.heap.size + 1 + 1, 1, none⟩ = some (.int .i64 d) := (hb1.cell (p := ⟨w.heap.size + 1 + 1, 1, none⟩) (by first | omega | (simp [ext_size]; try omega))).trans (by (simp (maxDischargeDepth := 8) [go_sem, World.cell?_alloc_past, ltk2, ltk3, ltk4, ltk5, ltk6, ltk7, ltk8, ltk9, *]))
    have cc1_6 : v1.cell? ⟨w.heap.size + 1 + 1 + 1, 0, none⟩ = some (.int .i64 p) := (hb1.cell (p := ⟨w.heap.size + 1 + 1 + 1, 0, none⟩) (by first | omega | (simp [ext_size]; try omega))).trans (by (simp (maxDischargeDepth := 8) [go_sem, World.cell?_alloc_past, ltk2, ltk3, ltk4, ltk5, ltk6, ltk7, ltk8, ltk9, *]))
    have cc1_7 : v1.cell? ⟨w.heap.size + 1 + 1 + 1, 1, none⟩ = some (.int .i64 q) := (hb1.cell (p := ⟨w.heap.size + 1 + 1 + 1, 1, none⟩) (by first | omega | (simp [ext_size]; try omega))).trans (by (simp (maxDischargeDepth := 8) [go_sem, World.cell?_alloc_past, ltk2, ltk3, ltk4, ltk5, ltk6, ltk7, ltk8, ltk9, *]))
    have zl1_0 : w.heap.size < v1.heap.size := by omega
    have zl1_1 : w.heap.size + 1 < v1.heap.size := by omega
    have zl1_2 : w.heap.size + 1 + 1 < v1.heap.size := by omega
    have zl1_3 : w.heap.size + 1 + 1 + 1 < v1.heap.size := by omega
    have hB1 : Below w.heap.size w v1 := Below.trans (by (repeat (first | with_reducible exact b0 _ | (with_reducible refine bext ?_ _ _) | (with_reducible refine below_drewN ?_ _) | (with_reducible refine Below.drew ?_) | (with_reducible refine bal ?_ _)))) (hb1.mono (by first | omega | (simp [ext_size]; try omega)))
    clear hb1
    go_wp2_with fail
    with_reducible refine (A2 _).mono ?_
    rintro e v2 ⟨rfl, hb2⟩
    have zz2 := hb2.size
    try simp [ext_size] at zz2
    have cc2_0 : v2.cell? ⟨w.heap.size, 0, none⟩ = some (.int .i64 a) := (hb2.cell (p := ⟨w.heap.size, 0, none⟩) (by first | omega | (simp [ext_size]; try omega))).trans (by (simp (maxDischargeDepth := 8) [go_sem, World.cell?_alloc_past, ltk2, ltk3, ltk4, ltk5, ltk6, ltk7, ltk8, ltk9, *]))
    have cc2_1 : v2.cell? ⟨w.heap.size, 1, none⟩ = some (.int .i64 b) := (hb2.cell (p := ⟨w.heap.size, 1, none⟩) (by first | omega | (simp [ext_size]; try omega))).trans (by (simp (maxDischargeDepth := 8) [go_sem, World.cell?_alloc_past, ltk2, ltk3, ltk4, ltk5, ltk6, ltk7, ltk8, ltk9, *]))
    have cc2_2 : v2.cell? ⟨w.heap.size + 1, 0, none⟩ = some (.int .i64 c) := (hb2.cell (p := ⟨w.heap.size + 1, 0, none⟩) (by first | omega | (simp [ext_size]; try omega))).trans (by (simp (maxDischargeDepth := 8) [go_sem, World.cell?_alloc_past, ltk2, ltk3, ltk4, ltk5, ltk6, ltk7, ltk8, ltk9, *]))
    have cc2_3 : v2.cell? ⟨w.heap.size + 1, 1, none⟩ = some (.int .i64 e) := (hb2.cell (p := ⟨w.heap.size + 1, 1, none⟩) (by first | omega | (simp [ext_size]; try omega))).trans (by (simp (maxDischargeDepth := 8) [go_sem, World.cell?_alloc_past, ltk2, ltk3, ltk4, ltk5, ltk6, ltk7, ltk8, ltk9, *]))
    have cc2_4 : v2.cell? ⟨w.heap.size + 1 + 1, 0, none⟩ = some (.int .i64 n) := (hb2.cell (p := ⟨w.heap.size + 1 + 1, 0, none⟩) (by first | omega | (simp [ext_size]; try omega))).trans (by (simp (maxDischargeDepth := 8) [go_sem, World.cell?_alloc_past, ltk2, ltk3, ltk4, ltk5, ltk6, ltk7, ltk8, ltk9, *]))
    have cc2_5 : v2.cell? ⟨w.heap.size + 1 + 1, 1, none⟩ = some (.int .i64 d) := (hb2.cell (p := ⟨w.heap.size + 1 + 1, 1, none⟩) (by first | omega | (simp [ext_size]; try omega))).trans (by (simp (maxDischargeDepth := 8) [go_sem, World.cell?_alloc_past, ltk2, ltk3, ltk4, ltk5, ltk6, ltk7, ltk8, ltk9, *]))
    have cc2_6 : v2.cell? ⟨w.heap.size + 1 + 1 + 1, 0, none⟩ = some (.int .i64 p) := (hb2.cell (p := ⟨w.heap.size + 1 + 1 + 1, 0, none⟩) (by first | omega | (simp [ext_size]; try omega))).trans (by (simp (maxDischargeDepth := 8) [go_sem, World.cell?_alloc_past, ltk2, ltk3, ltk4, ltk5, ltk6, ltk7, ltk8, ltk9, *]))
    have cc2_7 : v2.cell? ⟨w.heap.size + 1 + 1 + 1, 1, none⟩ = some (.int .i64 q) := (hb2.cell (p := ⟨w.heap.size + 1 + 1 + 1, 1, none⟩) (by first | omega | (simp [ext_size]; try omega))).trans (by (simp (maxDischargeDepth := 8) [go_sem, World.cell?_alloc_past, ltk2, ltk3, ltk4, ltk5, ltk6, ltk7, ltk8, ltk9, *]))
    have zl2_0 : w.heap.size < v2.heap.size := by omega
    have zl2_1 : w.heap.size + 1 < v2.heap.size := by omega
    have zl2_2 : w.heap.size + 1 + 1 < v2.heap.size := by omega
    have zl2_3 : w.heap.size + 1 + 1 + 1 < v2.heap.size := by omega
    have hB2 : Below w.heap.size w v2 := Below.trans (by (repeat (first | with_reducible exact hB1 | (with_reducible refine bext ?_ _ _) | (with_reducible refine below_drewN ?_ _) | (with_reducible refine Below.drew ?_) | (with_reducible refine bal ?_ _) | (with_reducible refine bset ?_ (by first | omega | (simp <;> omega)) _)))) (hb2.mono (by first | omega | (simp [ext_size]; try omega)))
    clear hb2
    clear cc1_0 cc1_1 cc1_2 cc1_3 cc1_4 cc1_5 cc1_6 cc1_7 zl1_0 zl1_1 zl1_2 zl1_3 zz1 hB1
    go_wp2_with fail
    with_reducible refine (A3 _).mono ?_
    rintro e v3 ⟨rfl, hb3⟩
    have zz3 := hb3.size
    try simp [ext_size] at zz3
    have cc3_0 : v3.cell? ⟨w.heap.size, 0, none⟩ = some (.int .i64 a) := (hb3.cell (p := ⟨w.heap.size, 0, none⟩) (by first | omega | (simp [ext_size]; try omega))).trans (by (simp (maxDischargeDepth := 8) [go_sem, World.cell?_alloc_past, ltk2, ltk3, ltk4, ltk5, ltk6, ltk7, ltk8, ltk9, *]))
    have cc3_1 : v3.cell? ⟨w.heap.size, 1, none⟩ = some (.int .i64 b) := (hb3.cell (p := ⟨w.heap.size, 1, none⟩) (by first | omega | (simp [ext_size]; try omega))).trans (by (simp (maxDischargeDepth := 8) [go_sem, World.cell?_alloc_past, ltk2, ltk3, ltk4, ltk5, ltk6, ltk7, ltk8, ltk9, *]))
    have cc3_2 : v3.cell? ⟨w.heap.size + 1, 0, none⟩ = some (.int .i64 c) := (hb3.cell (p := ⟨w.heap.size + 1, 0, none⟩) (by first | omega | (simp [ext_size]; try omega))).trans (by (simp (maxDischargeDepth := 8) [go_sem, World.cell?_alloc_past, ltk2, ltk3, ltk4, ltk5, ltk6, ltk7, ltk8, ltk9, *]))
    have cc3_3 : v3.cell? ⟨w.heap.size + 1, 1, none⟩ = some (.int .i64 e) := (hb3.cell (p := ⟨w.heap.size + 1, 1, none⟩) (by first | omega | (simp [ext_size]; try omega))).trans (by (simp (maxDischargeDepth := 8) [go_sem, World.cell?_alloc_past, ltk2, ltk3, ltk4, ltk5, ltk6, ltk7, ltk8, ltk9, *]))
    have cc3_4 : v3.cell? ⟨w.heap.size + 1 + 1, 0, none⟩ = some (.int .i64 n) := (hb3.cell (p := ⟨w.heap.size + 1 + 1, 0, none⟩) (by first | omega | (simp [ext_size]; try omega))).trans (by (simp (maxDischargeDepth := 8) [go_sem, World.cell?_alloc_past, ltk2, ltk3, ltk4, ltk5, ltk6, ltk7, ltk8, ltk9, *]))
    have cc3_5 : v3.cell? ⟨w.heap.size + 1 + 1, 1, none⟩ = some (.int .i64 d) := (hb3.cell (p := ⟨w.heap.size + 1 + 1, 1, none⟩) (by first | omega | (simp [ext_size]; try omega))).trans (by (simp (maxDischargeDepth := 8) [go_sem, World.cell?_alloc_past, ltk2, ltk3, ltk4, ltk5, ltk6, ltk7, ltk8, ltk9, *]))
    have cc3_6 : v3.cell? ⟨w.heap.size + 1 + 1 + 1, 0, none⟩ = some (.int .i64 p) := (hb3.cell (p := ⟨w.heap.size + 1 + 1 + 1, 0, none⟩) (by first | omega | (simp [ext_size]; try omega))).trans (by (simp (maxDischargeDepth := 8) [go_sem, World.cell?_alloc_past, ltk2, ltk3, ltk4, ltk5, ltk6, ltk7, ltk8, ltk9, *]))
    have cc3_7 : v3.cell? ⟨w.heap.size + 1 + 1 + 1, 1, none⟩ = some (.int .i64 q) := (hb3.cell (p := ⟨w.heap.size + 1 + 1 + 1, 1, none⟩) (by first | omega | (simp [ext_size]; try omega))).trans (by (simp (maxDischargeDepth := 8) [go_sem, World.cell?_alloc_past, ltk2, ltk3, ltk4, ltk5, ltk6, ltk7, ltk8, ltk9, *]))
    have zl3_0 : w.heap.size < v3.heap.size := by omega
    have zl3_1 : w.heap.size + 1 < v3.heap.size := by omega
    have zl3_2 : w.heap.size + 1 + 1 < v3.heap.size := by omega
    have zl3_3 : w.heap.size + 1 + 1 + 1 < v3.heap.size := by omega
    have hB3 : Below w.heap.size w v3 := Below.trans (by (repeat (first | with_reducible exact hB2 | (with_reducible refine bext ?_ _ _) | (with_reducible refine below_drewN ?_ _) | (with_reducible refine Below.drew ?_) | (with_reducible refine bal ?_ _) | (with_reducible refine bset ?_ (by first | omega | (simp <;> omega)) _)))) (hb3.mono (by first | omega | (simp [ext_size]; try omega)))
    clear hb3
    clear cc2_0 cc2_1 cc2_2 cc2_3 cc2_4 cc2_5 cc2_6 cc2_7 zl2_0 zl2_1 zl2_2 zl2_3 zz2 hB2
    go_wp2_with fail
    with_reducible refine (A4 _).mono ?_
    rintro e v4 ⟨rfl, hb4⟩
    have zz4 := hb4.size
    try simp [ext_size] at zz4
    have cc4_0 : v4.cell? ⟨w.heap.size, 0, none⟩ = some (.int .i64 a) := (hb4.cell (p := ⟨w.heap.size, 0, none⟩) (by first | omega | (simp [ext_size]; try omega))).trans (by (simp (maxDischargeDepth := 8) [go_sem, World.cell?_alloc_past, ltk2, ltk3, ltk4, ltk5, ltk6, ltk7, ltk8, ltk9, *]))
    have cc4_1 : v4.cell? ⟨w.heap.size, 1, none⟩ = some (.int .i64 b) := (hb4.cell (p := ⟨w.heap.size, 1, none⟩) (by first | omega | (simp [ext_size]; try omega))).trans (by (simp (maxDischargeDepth := 8) [go_sem, World.cell?_alloc_past, ltk2, ltk3, ltk4, ltk5, ltk6, ltk7, ltk8, ltk9, *]))
    have cc4_2 : v4.cell? ⟨w.heap.size + 1, 0, none⟩ = some (.int .i64 c) := (hb4.cell (p := ⟨w.heap.size + 1, 0, none⟩) (by first | omega | (simp [ext_size]; try omega))).trans (by (simp (maxDischargeDepth := 8) [go_sem, World.cell?_alloc_past, ltk2, ltk3, ltk4, ltk5, ltk6, ltk7, ltk8, ltk9, *]))
    have cc4_3 : v4.cell? ⟨w.heap.size + 1, 1, none⟩ = some (.int .i64 e) := (hb4.cell (p := ⟨w.heap.size + 1, 1, none⟩) (by first | omega | (simp [ext_size]; try omega))).trans (by (simp (maxDischargeDepth := 8) [go_sem, World.cell?_alloc_past, ltk2, ltk3, ltk4, ltk5, ltk6, ltk7, ltk8, ltk9, *]))
    have cc4_4 : v4.cell? ⟨w.heap.size + 1 + 1, 0, none⟩ = some (.int .i64 n) := (hb4.cell (p := ⟨w.heap.size + 1 + 1, 0, none⟩) (by first | omega | (simp [ext_size]; try omega))).trans (by (simp (maxDischargeDepth := 8) [go_sem, World.cell?_alloc_past, ltk2, ltk3, ltk4, ltk5, ltk6, ltk7, ltk8, ltk9, *]))
    have cc4_5 : v4.cell? ⟨w.heap.size + 1 + 1, 1, none⟩ = some (.int .i64 d) := (hb4.cell (p := ⟨w.heap.size + 1 + 1, 1, none⟩) (by first | omega | (simp [ext_size]; try omega))).trans (by (simp (maxDischargeDepth := 8) [go_sem, World.cell?_alloc_past, ltk2, ltk3, ltk4, ltk5, ltk6, ltk7, ltk8, ltk9, *]))
    have cc4_6 : v4.cell? ⟨w.heap.size + 1 + 1 + 1, 0, none⟩ = some (.int .i64 p) := (hb4.cell (p := ⟨w.heap.size + 1 + 1 + 1, 0, none⟩) (by first | omega | (simp [ext_size]; try omega))).trans (by (simp (maxDischargeDepth := 8) [go_sem, World.cell?_alloc_past, ltk2, ltk3, ltk4, ltk5, ltk6, ltk7, ltk8, ltk9, *]))
    have cc4_7 : v4.cell? ⟨w.heap.size + 1 + 1 + 1, 1, none⟩ = some (.int .i64 q) := (hb4.cell (p := ⟨w.heap.size + 1 + 1 + 1, 1, none⟩) (by first | omega | (simp [ext_size]; try omega))).trans (by (simp (maxDischargeDepth := 8) [go_sem, World.cell?_alloc_past, ltk2, ltk3, ltk4, ltk5, ltk6, ltk7, ltk8, ltk9, *]))
    have zl4_0 : w.heap.size < v4.heap.size := by omega
    have zl4_1 : w.heap.size + 1 < v4.heap.size := by omega
    have zl4_2 : w.heap.size + 1 + 1 < v4.heap.size := by omega
    have zl4_3 : w.heap.size + 1 + 1 + 1 < v4.heap.size := by omega
    have hB4 : Below w.heap.size w v4 := Below.trans (by (repeat (first | with_reducible exact hB3 | (with_reducible refine bext ?_ _ _) | (with_reducible refine below_drewN ?_ _) | (with_reducible refine Below.drew ?_) | (with_reducible refine bal ?_ _) | (with_reducible refine bset ?_ (by first | omega | (simp <;> omega)) _)))) (hb4.mono (by first | omega | (simp [ext_size]; try omega)))
    clear hb4
    clear cc3_0 cc3_1 cc3_2 cc3_3 cc3_4 cc3_5 cc3_6 cc3_7 zl3_0 zl3_1 zl3_2 zl3_3 zz3 hB3
    clear A1 A2 A3 A4
    go_upto_if 46 with fail
    go_cut [] (fun wx => wx.cell? ⟨w.heap.size, 0, none⟩ = some (.int .i64 a) ∧ wx.cell? ⟨w.heap.size, 1, none⟩ = some (.int .i64 b) ∧ wx.cell? ⟨w.heap.size + 1, 0, none⟩ = some (.int .i64 c) ∧ wx.cell? ⟨w.heap.size + 1, 1, none⟩ = some (.int .i64 e) ∧ wx.cell? ⟨w.heap.size + 1 + 1, 0, none⟩ = some (.int .i64 n) ∧ wx.cell? ⟨w.heap.size + 1 + 1, 1, none⟩ = some (.int .i64 d) ∧ wx.cell? ⟨w.heap.size + 1 + 1 + 1, 0, none⟩ = some (.int .i64 p) ∧ wx.cell? ⟨w.heap.size + 1 + 1 + 1, 1, none⟩ = some (.int .i64 q) ∧ w.heap.size + 1 + 1 + 1 < wx.heap.size ∧ Below w.heap.size w wx)
    case first =>
      clear AL A6 A7 A8 A9 B1 B2 B3 B4 IA IB IC
      have W9 : IntKind.i64.wrap (H - L) = H - L := IntWalk.i64_in _ (by omega)
      by_cases hlt : L < H
      ·
        obtain ⟨i1, i2⟩ := LL.out hlt
        rw [i1] at C1
        rw [i2] at C2
        clear i1 i2
        go_wp2_with fail
        with_reducible refine (A5 _).mono ?_
        rintro e v5 ⟨rfl, hb5⟩
        have zz5 := hb5.size
        try simp [ext_size] at zz5
        have cc5_0 : v5.cell? ⟨w.heap.size, 0, none⟩ = some (.int .i64 a) := (hb5.cell (p := ⟨w.heap.size, 0, none⟩) (by first | omega | (simp [ext_size]; try omega))).trans (by (simp (maxDischargeDepth := 8) [go_sem, World.cell?_alloc_past, ltk2, ltk3, ltk4, ltk5, ltk6, ltk7, ltk8, ltk9, *]))
        have cc5_1 : v5.cell? ⟨w.heap.size, 1, none⟩ = some (.int .i64 b) := (hb5.cell (p := ⟨w.heap.size, 1, none⟩) (by first | omega | (simp [ext_size]; try omega))).trans (by (simp (maxDischargeDepth := 8) [go_sem, World.cell?_alloc_past, ltk2, ltk3, ltk4, ltk5, ltk6, ltk7, ltk8, ltk9, *]))
        have cc5_2 : v5.cell? ⟨w.heap.size + 1, 0, none⟩ = some (.int .i64 c) := (hb5.cell (p := ⟨w.heap.size + 1, 0, none⟩) (by first | omega | (simp [ext_size]; try omega))).trans (by (simp (maxDischargeDepth := 8) [go_sem, World.cell?_alloc_past, ltk2, ltk3, ltk4, ltk5, ltk6, ltk7, ltk8, ltk9, *]))
        have cc5_3 : v5.cell? ⟨w.heap.size + 1, 1, none⟩ = some (.int .i64 e) := (hb5.cell (p := ⟨w.heap.size + 1, 1, none⟩) (by first | omega | (simp [ext_size]; try omega))).trans (by (simp (maxDischargeDepth := 8) [go_sem, World.cell?_alloc_past, ltk2, ltk3, ltk4, ltk5, ltk6, ltk7, ltk8, ltk9, *]))
        have cc5_4 : v5.cell? ⟨w.heap.size + 1 + 1, 0, none⟩ = some (.int .i64 n) := (hb5.cell (p := ⟨w.heap.size + 1 + 1, 0, none⟩) (by first | omega | (simp [ext_size]; try omega))).trans (by (simp (maxDischargeDepth := 8) [go_sem, World.cell?_alloc_past, ltk2, ltk3, ltk4, ltk5, ltk6, ltk7, ltk8, ltk9, *]))
        have cc5_5 : v5.cell? ⟨w.heap.size + 1 + 1, 1, none⟩ = some (.int .i64 d) := (hb5.cell (p := ⟨w.heap.size + 1 + 1, 1, none⟩) (by first | omega | (simp [ext_size]; try omega))).trans (by (simp (maxDischargeDepth := 8) [go_sem, World.cell?_alloc_past, ltk2, ltk3, ltk4, ltk5, ltk6, ltk7, ltk8, ltk9, *]))
        have cc5_6 : v5.cell? ⟨w.heap.size + 1 + 1 + 1, 0, none⟩ = some (.int .i64 p) := (hb5.cell (p := ⟨w.heap.size + 1 + 1 + 1, 0, none⟩) (by first | omega | (simp [ext_size]; try omega))).trans (by (simp (maxDischargeDepth := 8) [go_sem, World.cell?_alloc_past, ltk2, ltk3, ltk4, ltk5, ltk6, ltk7, ltk8, ltk9, *]))
        have cc5_7 : v5.cell? ⟨w.heap.size + 1 + 1 + 1, 1, none⟩ = some (.int .i64 q) := (hb5.cell (p := ⟨w.heap.size + 1 + 1 + 1, 1, none⟩) (by first | omega | (simp [ext_size]; try omega))).trans (by (simp (maxDischargeDepth := 8) [go_sem, World.cell?_alloc_past, ltk2, ltk3, ltk4, ltk5, ltk6, ltk7, ltk8, ltk9, *]))
        have cc5_8 : v5.cell? ⟨v4.heap.size, 0, none⟩ = some (.int .i64 L) := (hb5.cell (p := ⟨v4.heap.size, 0, none⟩) (by first | omega | (simp [ext_size]; try omega))).trans (by (simp (maxDischargeDepth := 8) [go_sem, World.cell?_alloc_past, ltk2, ltk3, ltk4, ltk5, ltk6, ltk7, ltk8, ltk9, *]))
        have cc5_9 : v5.cell? ⟨v4.heap.size, 1, none⟩ = some (.int .i64 H) := (hb5.cell (p := ⟨v4.heap.size, 1, none⟩) (by first | omega | (simp [ext_size]; try omega))).trans (by (simp (maxDischargeDepth := 8) [go_sem, World.cell?_alloc_past, ltk2, ltk3, ltk4, ltk5, ltk6, ltk7, ltk8, ltk9, *]))
        have zl5_0 : w.heap.size < v5.heap.size := by omega
        have zl5_1 : w.heap.size + 1 < v5.heap.size := by omega
        have zl5_2 : w.heap.size + 1 + 1 < v5.heap.size := by omega
        have zl5_3 : w.heap.size + 1 + 1 + 1 < v5.heap.size := by omega
        have zl5_4 : v4.heap.size < v5.heap.size := by omega
        have hB5 : Below w.heap.size w v5 := Below.trans (by (repeat (first | with_reducible exact hB4 | (with_reducible refine bext ?_ _ _) | (with_reducible refine below_drewN ?_ _) | (with_reducible refine Below.drew ?_) | (with_reducible refine bal ?_ _) | (with_reducible refine bset ?_ (by first | omega | (simp <;> omega)) _)))) (hb5.mono (by first | omega | (simp [ext_size]; try omega)))
        clear hb5
        clear cc4_0 cc4_1 cc4_2 cc4_3 cc4_4 cc4_5 cc4_6 cc4_7 zl4_0 zl4_1 zl4_2 zl4_3 zz4 hB4
        go_wp2_with fail
        with_reducible refine (C1 _).mono ?_
        rintro e v6 ⟨rfl, hb6⟩
        have zz6 := hb6.size
        try simp [ext_size] at zz6
        have cc6_0 : v6.cell? ⟨w.heap.size, 0, none⟩ = some (.int .i64 a) := (hb6.cell (p := ⟨w.heap.size, 0, none⟩) (by first | omega | (simp [ext_size]; try omega))).trans (by (simp (maxDischargeDepth := 8) [go_sem, World.cell?_alloc_past, ltk2, ltk3, ltk4, ltk5, ltk6, ltk7, ltk8, ltk9, *]))
        have cc6_1 : v6.cell? ⟨w.heap.size, 1, none⟩ = some (.int .i64 b) := (hb6.cell (p := ⟨w.heap.size, 1, none⟩) (by first | omega | (simp [ext_size]; try omega))).trans (by (simp (maxDischargeDepth := 8) [go_sem, World.cell?_alloc_past, ltk2, ltk3, ltk4, ltk5, ltk6, ltk7, ltk8, ltk9, *]))
        have cc6_2 : v6.cell? ⟨w.heap.size + 1, 0, none⟩ = some (.int .i64 c) := (hb6.cell (p := ⟨w.heap.size + 1, 0, none⟩) (by first | omega | (simp [ext_size]; try omega))).trans (by (simp (maxDischargeDepth := 8) [go_sem, World.cell?_alloc_past, ltk2, ltk3, ltk4, ltk5, ltk6, ltk7, ltk8, ltk9, *]))
        have cc6_3 : v6.cell? ⟨w.heap.size + 1, 1, none⟩ = some (.int .i64 e) := (hb6.cell (p := ⟨w.heap.size + 1, 1, none⟩) (by first | omega | (simp [ext_size]; try omega))).trans (by (simp (maxDischargeDepth := 8) [go_sem, World.cell?_alloc_past, ltk2, ltk3, ltk4, ltk5, ltk6, ltk7, ltk8, ltk9, *]))
        have cc6_4 : v6.cell? ⟨w.heap.size + 1 + 1, 0, none⟩ = some (.int .i64 n) := (hb6.cell (p := ⟨w.heap.size + 1 + 1, 0, none⟩) (by first | omega | (simp [ext_size]; try omega))).trans (by (simp (maxDischargeDepth := 8) [go_sem, World.cell?_alloc_past, ltk2, ltk3, ltk4, ltk5, ltk6, ltk7, ltk8, ltk9, *]))
        have cc6_5 : v6.cell? ⟨w.heap.size + 1 + 1, 1, none⟩ = some (.int .i64 d) := (hb6.cell (p := ⟨w.heap.size + 1 + 1, 1, none⟩) (by first | omega | (simp [ext_size]; try omega))).trans (by (simp (maxDischargeDepth := 8) [go_sem, World.cell?_alloc_past, ltk2, ltk3, ltk4, ltk5, ltk6, ltk7, ltk8, ltk9, *]))
        have cc6_6 : v6.cell? ⟨w.heap.size + 1 + 1 + 1, 0, none⟩ = some (.int .i64 p) := (hb6.cell (p := ⟨w.heap.size + 1 + 1 + 1, 0, none⟩) (by first | omega | (simp [ext_size]; try omega))).trans (by (simp (maxDischargeDepth := 8) [go_sem, World.cell?_alloc_past, ltk2, ltk3, ltk4, ltk5, ltk6, ltk7, ltk8, ltk9, *]))
        have cc6_7 : v6.cell? ⟨w.heap.size + 1 + 1 + 1, 1, none⟩ = some (.int .i64 q) := (hb6.cell (p := ⟨w.heap.size + 1 + 1 + 1, 1, none⟩) (by first | omega | (simp [ext_size]; try omega))).trans (by (simp (maxDischargeDepth := 8) [go_sem, World.cell?_alloc_past, ltk2, ltk3, ltk4, ltk5, ltk6, ltk7, ltk8, ltk9, *]))
        have cc6_8 : v6.cell? ⟨v4.heap.size, 0, none⟩ = some (.int .i64 L) := (hb6.cell (p := ⟨v4.heap.size, 0, none⟩) (by first | omega | (simp [ext_size]; try omega))).trans (by (simp (maxDischargeDepth := 8) [go_sem, World.cell?_alloc_past, ltk2, ltk3, ltk4, ltk5, ltk6, ltk7, ltk8, ltk9, *]))
        have cc6_9 : v6.cell? ⟨v4.heap.size, 1, none⟩ = some (.int .i64 H) := (hb6.cell (p := ⟨v4.heap.size, 1, none⟩) (by first | omega | (simp [ext_size]; try omega))).trans (by (simp (maxDischargeDepth := 8) [go_sem, World.cell?_alloc_past, ltk2, ltk3, ltk4, ltk5, ltk6, ltk7, ltk8, ltk9, *]))
        have zl6_0 : w.heap.size < v6.heap.size := by omega
        have zl6_1 : w.heap.size + 1 < v6.heap.size := by omega
        have zl6_2 : w.heap.size + 1 + 1 < v6.heap.size := by omega
        have zl6_3 : w.heap.size + 1 + 1 + 1 < v6.heap.size := by omega
        have zl6_4 : v4.heap.size < v6.heap.size := by omega
        have hB6 : Below w.heap.size w v6 := Below.trans (by (repeat (first | with_reducible exact hB5 | (with_reducible refine bext ?_ _ _) | (with_reducible refine below_drewN ?_ _) | (with_reducible refine Below.drew ?_) | (with_reducible refine bal ?_ _) | (with_reducible refine bset ?_ (by first | omega | (simp <;> omega)) _)))) (hb6.mono (by first | omega | (simp [ext_size]; try omega)))
        clear hb6
        clear cc5_0 cc5_1 cc5_2 cc5_3 cc5_4 cc5_5 cc5_6 cc5_7 cc5_8 cc5_9 zl5_0 zl5_1 zl5_2 zl5_3 zl5_4 zz5 hB5
        go_wp2_with fail
        with_reducible refine (C2 _).mono ?_
        rintro e v7 ⟨rfl, hb7⟩
        have zz7 := hb7.size
        try simp [ext_size] at zz7
        have cc7_0 : v7.cell? ⟨w.heap.size, 0, none⟩ = some (.int .i64 a) := (hb7.cell (p := ⟨w.heap.size, 0, none⟩) (by first | omega | (simp [ext_size]; try omega))).trans (by (simp (maxDischargeDepth := 8) [go_sem, World.cell?_alloc_past, ltk2, ltk3, ltk4, ltk5, ltk6, ltk7, ltk8, ltk9, *]))
        have cc7_1 : v7.cell? ⟨w.heap.size, 1, none⟩ = some (.int .i64 b) := (hb7.cell (p := ⟨w.heap.size, 1, none⟩) (by first | omega | (simp [ext_size]; try omega))).trans (by (simp (maxDischargeDepth := 8) [go_sem, World.cell?_alloc_past, ltk2, ltk3, ltk4, ltk5, ltk6, ltk7, ltk8, ltk9, *]))
        have cc7_2 : v7.cell? ⟨w.heap.size + 1, 0, none⟩ = some (.int .i64 c) := (hb7.cell (p := ⟨w.heap.size + 1, 0, none⟩) (by first | omega | (simp [ext_size]; try omega))).trans (by (simp (maxDischargeDepth := 8) [go_sem, World.cell?_alloc_past, ltk2, ltk3, ltk4, ltk5, ltk6, ltk7, ltk8, ltk9, *]))
        have cc7_3 : v7.cell? ⟨w.heap.size + 1, 1, none⟩ = some (.int .i64 e) := (hb7.cell (p := ⟨w.heap.size + 1, 1, none⟩) (by first | omega | (simp [ext_size]; try omega))).trans (by (simp (maxDischargeDepth := 8) [go_sem, World.cell?_alloc_past, ltk2, ltk3, ltk4, ltk5, ltk6, ltk7, ltk8, ltk9, *]))
        have cc7_4 : v7.cell? ⟨w.heap.size + 1 + 1, 0, none⟩ = some (.int .i64 n) := (hb7.cell (p := ⟨w.heap.size + 1 + 1, 0, none⟩) (by first | omega | (simp [ext_size]; try omega))).trans (by (simp (maxDischargeDepth := 8) [go_sem, World.cell?_alloc_past, ltk2, ltk3, ltk4, ltk5, ltk6, ltk7, ltk8, ltk9, *]))
        have cc7_5 : v7.cell? ⟨w.heap.size + 1 + 1, 1, none⟩ = some (.int .i64 d) := (hb7.cell (p := ⟨w.heap.size + 1 + 1, 1, none⟩) (by first | omega | (simp [ext_size]; try omega))).trans (by (simp (maxDischargeDepth := 8) [go_sem, World.cell?_alloc_past, ltk2, ltk3, ltk4, ltk5, ltk6, ltk7, ltk8, ltk9, *]))
        have cc7_6 : v7.cell? ⟨w.heap.size + 1 + 1 + 1, 0, none⟩ = some (.int .i64 p) := (hb7.cell (p := ⟨w.heap.size + 1 + 1 + 1, 0, none⟩) (by first | omega | (simp [ext_size]; try omega))).trans (by (simp (maxDischargeDepth := 8) [go_sem, World.cell?_alloc_past, ltk2, ltk3, ltk4, ltk5, ltk6, ltk7, ltk8, ltk9, *]))
        have cc7_7 : v7.cell? ⟨w.heap.size + 1 + 1 + 1, 1, none⟩ = some (.int .i64 q) := (hb7.cell (p := ⟨w.heap.size + 1 + 1 + 1, 1, none⟩) (by first | omega | (simp [ext_size]; try omega))).trans (by (simp (maxDischargeDepth := 8) [go_sem, World.cell?_alloc_past, ltk2, ltk3, ltk4, ltk5, ltk6, ltk7, ltk8, ltk9, *]))
        have cc7_8 : v7.cell? ⟨v4.heap.size, 0, none⟩ = some (.int .i64 L) := (hb7.cell (p := ⟨v4.heap.size, 0, none⟩) (by first | omega | (simp [ext_size]; try omega))).trans (by (simp (maxDischargeDepth := 8) [go_sem, World.cell?_alloc_past, ltk2, ltk3, ltk4, ltk5, ltk6, ltk7, ltk8, ltk9, *]))
        have cc7_9 : v7.cell? ⟨v4.heap.size, 1, none⟩ = some (.int .i64 H) := (hb7.cell (p := ⟨v4.heap.size, 1, none⟩) (by first | omega | (simp [ext_size]; try omega))).trans (by (simp (maxDischargeDepth := 8) [go_sem, World.cell?_alloc_past, ltk2, ltk3, ltk4, ltk5, ltk6, ltk7, ltk8, ltk9, *]))
        have zl7_0 : w.heap.size < v7.heap.size := by omega
        have zl7_1 : w.heap.size + 1 < v7.heap.size := by omega
        have zl7_2 : w.heap.size + 1 + 1 < v7.heap.size := by omega
        have zl7_3 : w.heap.size + 1 + 1 + 1 < v7.heap.size := by omega
        have zl7_4 : v4.heap.size < v7.heap.size := by omega
        have hB7 : Below w.heap.size w v7 := Below.trans (by (repeat (first | with_reducible exact hB6 | (with_reducible refine bext ?_ _ _) | (with_reducible refine below_drewN ?_ _) | (with_reducible refine Below.drew ?_) | (with_reducible refine bal ?_ _) | (with_reducible refine bset ?_ (by first | omega | (simp <;> omega)) _)))) (hb7.mono (by first | omega | (simp [ext_size]; try omega)))
        clear hb7
        clear cc6_0 cc6_1 cc6_2 cc6_3 cc6_4 cc6_5 cc6_6 cc6_7 cc6_8 cc6_9 zl6_0 zl6_1 zl6_2 zl6_3 zl6_4 zz6 hB6
        go_wp2_with fail
        all_goals go_meet
        all_goals refine ⟨by (simp (maxDischargeDepth := 8) [go_sem, World.cell?_alloc_past, ltk2, ltk3, ltk4, ltk5, ltk6, ltk7, ltk8, ltk9, *]), by (simp (maxDischargeDepth := 8) [go_sem, World.cell?_alloc_past, ltk2, ltk3, ltk4, ltk5, ltk6, ltk7, ltk8, ltk9, *]), by (simp (maxDischargeDepth := 8) [go_sem, World.cell?_alloc_past, ltk2, ltk3, ltk4, ltk5, ltk6, ltk7, ltk8, ltk9, *]), by (simp (maxDischargeDepth := 8) [go_sem, World.cell?_alloc_past, ltk2, ltk3, ltk4, ltk5, ltk6, ltk7, ltk8, ltk9, *]), by (simp (maxDischargeDepth := 8) [go_sem, World.cell?_alloc_past, ltk2, ltk3, ltk4, ltk5, ltk6, ltk7, ltk8, ltk9, *]), by (simp (maxDischargeDepth := 8) [go_sem, World.cell?_alloc_past, ltk2, ltk3, ltk4, ltk5, ltk6, ltk7, ltk8, ltk9, *]), by (simp (maxDischargeDepth := 8) [go_sem, World.cell?_alloc_past, ltk2, ltk3, ltk4, ltk5, ltk6, ltk7, ltk8, ltk9, *]), by (simp (maxDischargeDepth := 8) [go_sem, World.cell?_alloc_past, ltk2, ltk3, ltk4, ltk5, ltk6, ltk7, ltk8, ltk9, *]), by first | omega | (simp [ext_size]; try omega), by (repeat (first | with_reducible exact hB7 | (with_reducible refine bext ?_ _ _) | (with_reducible refine below_drewN ?_ _) | (with_reducible refine Below.drew ?_) | (with_reducible refine bal ?_ _) | (with_reducible refine bset ?_ (by first | omega | (simp <;> omega)) _)))⟩
      ·
        go_wp2_with fail
        with_reducible refine (A5 _).mono ?_
        rintro e v8 ⟨rfl, hb8⟩
        have zz8 := hb8.size
        try simp [ext_size] at zz8
        have cc8_0 : v8.cell? ⟨w.heap.size, 0, none⟩ = some (.int .i64 a) := (hb8.cell (p := ⟨w.heap.size, 0, none⟩) (by first | omega | (simp [ext_size]; try omega))).trans (by (simp (maxDischargeDepth := 8) [go_sem, World.cell?_alloc_past, ltk2, ltk3, ltk4, ltk5, ltk6, ltk7, ltk8, ltk9, *]))
        have cc8_1 : v8.cell? ⟨w.heap.size, 1, none⟩ = some (.int .i64 b) := (hb8.cell (p := ⟨w.heap.size, 1, none⟩) (by first | omega | (simp [ext_size]; try omega))).trans (by (simp (maxDischargeDepth := 8) [go_sem, World.cell?_alloc_past, ltk2, ltk3, ltk4, ltk5, ltk6, ltk7, ltk8, ltk9, *]))
        have cc8_2 : v8.cell? ⟨w.heap.size + 1, 0, none⟩ = some (.int .i64 c) := (hb8.cell (p := ⟨w.heap.size + 1, 0, none⟩) (by first | omega | (simp [ext_size]; try omega))).trans (by (simp (maxDischargeDepth := 8) [go_sem, World.cell?_alloc_past, ltk2, ltk3, ltk4, ltk5, ltk6, ltk7, ltk8, ltk9, *]))
        have cc8_3 : v8.cell? ⟨w.heap.size + 1, 1, none⟩ = some (.int .i64 e) := (hb8.cell (p := ⟨w.heap.size + 1, 1, none⟩) (by first | omega | (simp [ext_size]; try omega))).trans (by (simp (maxDischargeDepth := 8) [go_sem, World.cell?_alloc_past, ltk2, ltk3, ltk4, ltk5, ltk6, ltk7, ltk8, ltk9, *]))
        have cc8_4 : v8.cell? ⟨w.heap.size + 1 + 1, 0, none⟩ = some (.int .i64 n) := (hb8.cell (p := ⟨w.heap.size + 1 + 1, 0, none⟩) (by first | omega | (simp [ext_size]; try omega))).trans (by (simp (maxDischargeDepth := 8) [go_sem, World.cell?_alloc_past, ltk2, ltk3, ltk4, ltk5, ltk6, ltk7, ltk8, ltk9, *]))
        have cc8_5 : v8.cell? ⟨w.heap.size + 1 + 1, 1, none⟩ = some (.int .i64 d) := (hb8.cell (p := ⟨w.heap.size + 1 + 1, 1, none⟩) (by first | omega | (simp [ext_size]; try omega))).trans (by (simp (maxDischargeDepth := 8) [go_sem, World.cell?_alloc_past, ltk2, ltk3, ltk4, ltk5, ltk6, ltk7, ltk8, ltk9, *]))
        have cc8_6 : v8.cell? ⟨w.heap.size + 1 + 1 + 1, 0, none⟩ = some (.int .i64 p) := (hb8.cell (p := ⟨w.heap.size + 1 + 1 + 1, 0, none⟩) (by first | omega | (simp [ext_size]; try omega))).trans (by (simp (maxDischargeDepth := 8) [go_sem, World.cell?_alloc_past, ltk2, ltk3, ltk4, ltk5, ltk6, ltk7, ltk8, ltk9, *]))
        have cc8_7 : v8.cell? ⟨w.heap.size + 1 + 1 + 1, 1, none⟩ = some (.int .i64 q) := (hb8.cell (p := ⟨w.heap.size + 1 + 1 + 1, 1, none⟩) (by first | omega | (simp [ext_size]; try omega))).trans (by (simp (maxDischargeDepth := 8) [go_sem, World.cell?_alloc_past, ltk2, ltk3, ltk4, ltk5, ltk6, ltk7, ltk8, ltk9, *]))
        have cc8_8 : v8.cell? ⟨v4.heap.size, 0, none⟩ = some (.int .i64 L) := (hb8.cell (p := ⟨v4.heap.size, 0, none⟩) (by first | omega | (simp [ext_size]; try omega))).trans (by (simp (maxDischargeDepth := 8) [go_sem, World.cell?_alloc_past, ltk2, ltk3, ltk4, ltk5, ltk6, ltk7, ltk8, ltk9, *]))
        have cc8_9 : v8.cell? ⟨v4.heap.size, 1, none⟩ = some (.int .i64 H) := (hb8.cell (p := ⟨v4.heap.size, 1, none⟩) (by first | omega | (simp [ext_size]; try omega))).trans (by (simp (maxDischargeDepth := 8) [go_sem, World.cell?_alloc_past, ltk2, ltk3, ltk4, ltk5, ltk6, ltk7, ltk8, ltk9, *]))
        have zl8_0 : w.heap.size < v8.heap.size := by omega
        have zl8_1 : w.heap.size + 1 < v8.heap.size := by omega
        have zl8_2 : w.heap.size + 1 + 1 < v8.heap.size := by omega
        have zl8_3 : w.heap.size + 1 + 1 + 1 < v8.heap.size := by omega
        have zl8_4 : v4.heap.size < v8.heap.size := by omega
        have hB8 : Below w.heap.size w v8 := Below.trans (by (repeat (first | with_reducible exact hB4 | (with_reducible refine bext ?_ _ _) | (with_reducible refine below_drewN ?_ _) | (with_reducible refine Below.drew ?_) | (with_reducible refine bal ?_ _) | (with_reducible refine bset ?_ (by first | omega | (simp <;> omega)) _)))) (hb8.mono (by first | omega | (simp [ext_size]; try omega)))
        clear hb8
        clear cc4_0 cc4_1 cc4_2 cc4_3 cc4_4 cc4_5 cc4_6 cc4_7 zl4_0 zl4_1 zl4_2 zl4_3 zz4 hB4
        go_wp2_with fail
        all_goals go_meet
        all_goals refine ⟨by (simp (maxDischargeDepth := 8) [go_sem, World.cell?_alloc_past, ltk2, ltk3, ltk4, ltk5, ltk6, ltk7, ltk8, ltk9, *]), by (simp (maxDischargeDepth := 8) [go_sem, World.cell?_alloc_past, ltk2, ltk3, ltk4, ltk5, ltk6, ltk7, ltk8, ltk9, *]), by (simp (maxDischargeDepth := 8) [go_sem, World.cell?_alloc_past, ltk2, ltk3, ltk4, ltk5, ltk6, ltk7, ltk8, ltk9, *]), by (simp (maxDischargeDepth := 8) [go_sem, World.cell?_alloc_past, ltk2, ltk3, ltk4, ltk5, ltk6, ltk7, ltk8, ltk9, *]), by (simp (maxDischargeDepth := 8) [go_sem, World.cell?_alloc_past, ltk2, ltk3, ltk4, ltk5, ltk6, ltk7, ltk8, ltk9, *]), by (simp (maxDischargeDepth := 8) [go_sem, World.cell?_alloc_past, ltk2, ltk3, ltk4, ltk5, ltk6, ltk7, ltk8, ltk9, *]), by (simp (maxDischargeDepth := 8) [go_sem, World.cell?_alloc_past, ltk2, ltk3, ltk4, ltk5, ltk6, ltk7, ltk8, ltk9, *]), by (simp (maxDischargeDepth := 8) [go_sem, World.cell?_alloc_past, ltk2, ltk3, ltk4, ltk5, ltk6, ltk7, ltk8, ltk9, *]), by first | omega | (simp [ext_size]; try omega), by (repeat (first | with_reducible exact hB8 | (with_reducible refine bext ?_ _ _) | (with_reducible refine below_drewN ?_ _) | (with_reducible refine Below.drew ?_) | (with_reducible refine bal ?_ _) | (with_reducible refine bset ?_ (by first | omega | (simp <;> omega)) _)))⟩
    case rest =>
      obtain ⟨j1, j2, j3, j4, j5, j6, j7, j8, jz, jB⟩ := hcut
      have jz2 := Nat.lt_of_succ_lt jz
      have jz1 := Nat.lt_of_succ_lt jz2
      have jz0 := Nat.lt_of_succ_lt jz1
      by_cases hA : inB a b n d = true
      ·
        by_cases hC : inB c e p q = true
        ·
          rw [hA] at A6
          rw [hC] at A7
          have I1 := Lib.hid (IA.out hA hC)
          have I2 := Lib.hid (IB.out hA hC)
          have I3 := Lib.hid (IC.out hA hC)
          clear IA IB IC hA hC
          go_wp2_with fail
          with_reducible refine (A6 _).mono ?_
          rintro e v9 ⟨rfl, hb9⟩
          have zz9 := hb9.size
          try simp [ext_size] at zz9
          have cc9_0 : v9.cell? ⟨w.heap.size, 0, none⟩ = some (.int .i64 a) := (hb9.cell (p := ⟨w.heap.size, 0, none⟩) (by first | omega | (simp [ext_size]; try omega))).trans (by (simp (maxDischargeDepth := 8) [go_sem, World.cell?_alloc_past, ltk2, ltk3, ltk4, ltk5, ltk6, ltk7, ltk8, ltk9, *]))
          have cc9_1 : v9.cell? ⟨w.heap.size, 1, none⟩ = some (.int .i64 b) := (hb9.cell (p := ⟨w.heap.size, 1, none⟩) (by first | omega | (simp [ext_size]; try omega))).trans (by (simp (maxDischargeDepth := 8) [go_sem, World.cell?_alloc_past, ltk2, ltk3, ltk4, ltk5, ltk6, ltk7, ltk8, ltk9, *]))
          have cc9_2 : v9.cell? ⟨w.heap.size + 1, 0, none⟩ = some (.int .i64 c) := (hb9.cell (p := ⟨w.heap.size + 1, 0, none⟩) (by first | omega | (simp [ext_size]; try omega))).trans (by (simp (maxDischargeDepth := 8) [go_sem, World.cell?_alloc_past, ltk2, ltk3, ltk4, ltk5, ltk6, ltk7, ltk8, ltk9, *]))
          have cc9_3 : v9.cell? ⟨w.heap.size + 1, 1, none⟩ = some (.int .i64 e) := (hb9.cell (p := ⟨w.heap.size + 1, 1, none⟩) (by first | omega | (simp [ext_size]; try omega))).trans (by (simp (maxDischargeDepth := 8) [go_sem, World.cell?_alloc_past, ltk2, ltk3, ltk4, ltk5, ltk6, ltk7, ltk8, ltk9, *]))
          have cc9_4 : v9.cell? ⟨w.heap.size + 1 + 1, 0, none⟩ = some (.int .i64 n) := (hb9.cell (p := ⟨w.heap.size + 1 + 1, 0, none⟩) (by first | omega | (simp [ext_size]; try omega))).trans (by (simp (maxDischargeDepth := 8) [go_sem, World.cell?_alloc_past, ltk2, ltk3, ltk4, ltk5, ltk6, ltk7, ltk8, ltk9, *]))
          have cc9_5 : v9.cell? ⟨w.heap.size + 1 + 1, 1, none⟩ = some (.int .i64 d) := (hb9.cell (p := ⟨w.heap.size + 1 + 1, 1, none⟩) (by first | omega | (simp [ext_size]; try omega))).trans (by (simp (maxDischargeDepth := 8) [go_sem, World.cell?_alloc_past, ltk2, ltk3, ltk4, ltk5, ltk6, ltk7, ltk8, ltk9, *]))
          have cc9_6 : v9.cell? ⟨w.heap.size + 1 + 1 + 1, 0, none⟩ = some (.int .i64 p) := (hb9.cell (p := ⟨w.heap.size + 1 + 1 + 1, 0, none⟩) (by first | omega | (simp [ext_size]; try omega))).trans (by (simp (maxDischargeDepth := 8) [go_sem, World.cell?_alloc_past, ltk2, ltk3, ltk4, ltk5, ltk6, ltk7, ltk8, ltk9, *]))
          have cc9_7 : v9.cell? ⟨w.heap.size + 1 + 1 + 1, 1, none⟩ = some (.int .i64 q) := (hb9.cell (p := ⟨w.heap.size + 1 + 1 + 1, 1, none⟩) (by first | omega | (simp [ext_size]; try omega))).trans (by (simp (maxDischargeDepth := 8) [go_sem, World.cell?_alloc_past, ltk2, ltk3, ltk4, ltk5, ltk6, ltk7, ltk8, ltk9, *]))
          have zl9_0 : w.heap.size < v9.heap.size := by omega
          have zl9_1 : w.heap.size + 1 < v9.heap.size := by omega
          have zl9_2 : w.heap.size + 1 + 1 < v9.heap.size := by omega
          have zl9_3 : w.heap.size + 1 + 1 + 1 < v9.heap.size := by omega
          have hB9 : Below w.heap.size w v9 := Below.trans (by (repeat (first | with_reducible exact jB | (with_reducible refine bext ?_ _ _) | (with_reducible refine below_drewN ?_ _) | (with_reducible refine Below.drew ?_) | (with_reducible refine bal ?_ _) | (with_reducible refine bset ?_ (by first | omega | (simp <;> omega)) _)))) (hb9.mono (by first | omega | (simp [ext_size]; try omega)))
          clear hb9
          go_wp2_with fail
          with_reducible refine (A7 _).mono ?_
          rintro e v10 ⟨rfl, hb10⟩
          have zz10 := hb10.size
          try simp [ext_size] at zz10
          have cc10_0 : v10.cell? ⟨w.heap.size, 0, none⟩ = some (.int .i64 a) := (hb10.cell (p := ⟨w.heap.size, 0, none⟩) (by first | omega | (simp [ext_size]; try omega))).trans (by (simp (maxDischargeDepth := 8) [go_sem, World.cell?_alloc_past, ltk2, ltk3, ltk4, ltk5, ltk6, ltk7, ltk8, ltk9, *]))
          have cc10_1 : v10.cell? ⟨w.heap.size, 1, none⟩ = some (.int .i64 b) := (hb10.cell (p := ⟨w.heap.size, 1, none⟩) (by first | omega | (simp [ext_size]; try omega))).trans (by (simp (maxDischargeDepth := 8) [go_sem, World.cell?_alloc_past, ltk2, ltk3, ltk4, ltk5, ltk6, ltk7, ltk8, ltk9, *]))
          have cc10_2 : v10.cell? ⟨w.heap.size + 1, 0, none⟩ = some (.int .i64 c) := (hb10.cell (p := ⟨w.heap.size + 1, 0, none⟩) (by first | omega | (simp [ext_size]; try omega))).trans (by (simp (maxDischargeDepth := 8) [go_sem, World.cell?_alloc_past, ltk2, ltk3, ltk4, ltk5, ltk6, ltk7, ltk8, ltk9, *]))
          have cc10_3 : v10.cell? ⟨w.heap.size + 1, 1, none⟩ = some (.int .i64 e) := (hb10.cell (p := ⟨w.heap.size + 1, 1, none⟩) (by first | omega | (simp [ext_size]; try omega))).trans (by (simp (maxDischargeDepth := 8) [go_sem, World.cell?_alloc_past, ltk2, ltk3, ltk4, ltk5, ltk6, ltk7, ltk8, ltk9, *]))
          have cc10_4 : v10.cell? ⟨w.heap.size + 1 + 1, 0, none⟩ = some (.int .i64 n) := (hb10.cell (p := ⟨w.heap.size + 1 + 1, 0, none⟩) (by first | omega | (simp [ext_size]; try omega))).trans (by (simp (maxDischargeDepth := 8) [go_sem, World.cell?_alloc_past, ltk2, ltk3, ltk4, ltk5, ltk6, ltk7, ltk8, ltk9, *]))
          have cc10_5 : v10.cell? ⟨w.heap.size + 1 + 1, 1, none⟩ = some (.int .i64 d) := (hb10.cell (p := ⟨w.heap.size + 1 + 1, 1, none⟩) (by first | omega | (simp [ext_size]; try omega))).trans (by (simp (maxDischargeDepth := 8) [go_sem, World.cell?_alloc_past, ltk2, ltk3, ltk4, ltk5, ltk6, ltk7, ltk8, ltk9, *]))
          have cc10_6 : v10.cell? ⟨w.heap.size + 1 + 1 + 1, 0, none⟩ = some (.int .i64 p) := (hb10.cell (p := ⟨w.heap.size + 1 + 1 + 1, 0, none⟩) (by first | omega | (simp [ext_size]; try omega))).trans (by (simp (maxDischargeDepth := 8) [go_sem, World.cell?_alloc_past, ltk2, ltk3, ltk4, ltk5, ltk6, ltk7, ltk8, ltk9, *]))
          have cc10_7 : v10.cell? ⟨w.heap.size + 1 + 1 + 1, 1, none⟩ = some (.int .i64 q) := (hb10.cell (p := ⟨w.heap.size + 1 + 1 + 1, 1, none⟩) (by first | omega | (simp [ext_size]; try omega))).trans (by (simp (maxDischargeDepth := 8) [go_sem, World.cell?_alloc_past, ltk2, ltk3, ltk4, ltk5, ltk6, ltk7, ltk8, ltk9, *]))
          have zl10_0 : w.heap.size < v10.heap.size := by omega
          have zl10_1 : w.heap.size + 1 < v10.heap.size := by omega
          have zl10_2 : w.heap.size + 1 + 1 < v10.heap.size := by omega
          have zl10_3 : w.heap.size + 1 + 1 + 1 < v10.heap.size := by omega
          have hB10 : Below w.heap.size w v10 := Below.trans (by (repeat (first | with_reducible exact hB9 | (with_reducible refine bext ?_ _ _) | (with_reducible refine below_drewN ?_ _) | (with_reducible refine Below.drew ?_) | (with_reducible refine bal ?_ _) | (with_reducible refine bset ?_ (by first | omega | (simp <;> omega)) _)))) (hb10.mono (by first | omega | (simp [ext_size]; try omega)))
          clear hb10
          clear cc9_0 cc9_1 cc9_2 cc9_3 cc9_4 cc9_5 cc9_6 cc9_7 zl9_0 zl9_1 zl9_2 zl9_3 zz9 hB9
          go_wp2_with fail
          with_reducible refine (A8 _).mono ?_
          rintro e v11 ⟨rfl, hb11⟩
          have zz11 := hb11.size
          try simp [ext_size] at zz11
          have cc11_0 : v11.cell? ⟨w.heap.size, 0, none⟩ = some (.int .i64 a) := (hb11.cell (p := ⟨w.heap.size, 0, none⟩) (by first | omega | (simp [ext_size]; try omega))).trans (by (simp (maxDischargeDepth := 8) [go_sem, World.cell?_alloc_past, ltk2, ltk3, ltk4, ltk5, ltk6, ltk7, ltk8, ltk9, *]))
          have cc11_1 : v11.cell? ⟨w.heap.size, 1, none⟩ = some (.int .i64 b) := (hb11.cell (p := ⟨w.heap.size, 1, none⟩) (by first | omega | (simp [ext_size]; try omega))).trans (by (simp (maxDischargeDepth := 8) [go_sem, World.cell?_alloc_past, ltk2, ltk3, ltk4, ltk5, ltk6, ltk7, ltk8, ltk9, *]))
          have cc11_2 : v11.cell? ⟨w.heap.size + 1, 0, none⟩ = some (.int .i64 c) := (hb11.cell (p := ⟨w.heap.size + 1, 0, none⟩) (by first | omega | (simp [ext_size]; try omega))).trans (by (simp (maxDischargeDepth := 8) [go_sem, World.cell?_alloc_past, ltk2, ltk3, ltk4, ltk5, ltk6, ltk7, ltk8, ltk9, *]))
          have cc11_3 : v11.cell? ⟨w.heap.size + 1, 1, none⟩ = some (.int .i64 e) := (hb11.cell (p := ⟨w.heap.size + 1, 1, none⟩) (by first | omega | (simp [ext_size]; try omega))).trans (by (simp (maxDischargeDepth := 8) [go_sem, World.cell?_alloc_past, ltk2, ltk3, ltk4, ltk5, ltk6, ltk7, ltk8, ltk9, *]))
          have cc11_4 : v11.cell? ⟨w.heap.size + 1 + 1, 0, none⟩ = some (.int .i64 n) := (hb11.cell (p := ⟨w.heap.size + 1 + 1, 0, none⟩) (by first | omega | (simp [ext_size]; try omega))).trans (by (simp (maxDischargeDepth := 8) [go_sem, World.cell?_alloc_past, ltk2, ltk3, ltk4, ltk5, ltk6, ltk7, ltk8, ltk9, *]))
          have cc11_5 : v11.cell? ⟨w.heap.size + 1 + 1, 1, none⟩ = some (.int .i64 d) := (hb11.cell (p := ⟨w.heap.size + 1 + 1, 1, none⟩) (by first | omega | (simp [ext_size]; try omega))).trans (by (simp (maxDischargeDepth := 8) [go_sem, World.cell?_alloc_past, ltk2, ltk3, ltk4, ltk5, ltk6, ltk7, ltk8, ltk9, *]))
          have cc11_6 : v11.cell? ⟨w.heap.size + 1 + 1 + 1, 0, none⟩ = some (.int .i64 p) := (hb11.cell (p := ⟨w.heap.size + 1 + 1 + 1, 0, none⟩) (by first | omega | (simp [ext_size]; try omega))).trans (by (simp (maxDischargeDepth := 8) [go_sem, World.cell?_alloc_past, ltk2, ltk3, ltk4, ltk5, ltk6, ltk7, ltk8, ltk9, *]))
          have cc11_7 : v11.cell? ⟨w.heap.size + 1 + 1 + 1, 1, none⟩ = some (.int .i64 q) := (hb11.cell (p := ⟨w.heap.size + 1 + 1 + 1, 1, none⟩) (by first | omega | (simp [ext_size]; try omega))).trans (by (simp (maxDischargeDepth := 8) [go_sem, World.cell?_alloc_past, ltk2, ltk3, ltk4, ltk5, ltk6, ltk7, ltk8, ltk9, *]))
          have zl11_0 : w.heap.size < v11.heap.size := by omega
          have zl11_1 : w.heap.size + 1 < v11.heap.size := by omega
          have zl11_2 : w.heap.size + 1 + 1 < v11.heap.size := by omega
          have zl11_3 : w.heap.size + 1 + 1 + 1 < v11.heap.size := by omega
          have hB11 : Below w.heap.size w v11 := Below.trans (by (repeat (first | with_reducible exact hB10 | (with_reducible refine bext ?_ _ _) | (with_reducible refine below_drewN ?_ _) | (with_reducible refine Below.drew ?_) | (with_reducible refine bal ?_ _) | (with_reducible refine bset ?_ (by first | omega | (simp <;> omega)) _)))) (hb11.mono (by first | omega | (simp [ext_size]; try omega)))
          clear hb11
          clear cc10_0 cc10_1 cc10_2 cc10_3 cc10_4 cc10_5 cc10_6 cc10_7 zl10_0 zl10_1 zl10_2 zl10_3 zz10 hB10
          go_wp2_with fail
          with_reducible refine (A9 _).mono ?_
          rintro e v12 ⟨rfl, hb12⟩
          have zz12 := hb12.size
          try simp [ext_size] at zz12
          have cc12_0 : v12.cell? ⟨w.heap.size, 0, none⟩ = some (.int .i64 a) := (hb12.cell (p := ⟨w.heap.size, 0, none⟩) (by first | omega | (simp [ext_size]; try omega))).trans (by (simp (maxDischargeDepth := 8) [go_sem, World.cell?_alloc_past, ltk2, ltk3, ltk4, ltk5, ltk6, ltk7, ltk8, ltk9, *]))
          have cc12_1 : v12.cell? ⟨w.heap.size, 1, none⟩ = some (.int .i64 b) := (hb12.cell (p := ⟨w.heap.size, 1, none⟩) (by first | omega | (simp [ext_size]; try omega))).trans (by (simp (maxDischargeDepth := 8) [go_sem, World.cell?_alloc_past, ltk2, ltk3, ltk4, ltk5, ltk6, ltk7, ltk8, ltk9, *]))
          have cc12_2 : v12.cell? ⟨w.heap.size + 1, 0, none⟩ = some (.int .i64 c) := (hb12.cell (p := ⟨w.heap.size + 1, 0, none⟩) (by first | omega | (simp [ext_size]; try omega))).trans (by (simp (maxDischargeDepth := 8) [go_sem, World.cell?_alloc_past, ltk2, ltk3, ltk4, ltk5, ltk6, ltk7, ltk8, ltk9, *]))
          have cc12_3 : v12.cell? ⟨w.heap.size + 1, 1, none⟩ = some (.int .i64 e) := (hb12.cell (p := ⟨w.heap.size + 1, 1, none⟩) (by first | omega | (simp [ext_size]; try omega))).trans (by (simp (maxDischargeDepth := 8) [go_sem, World.cell?_alloc_past, ltk2, ltk3, ltk4, ltk5, ltk6, ltk7, ltk8, ltk9, *]))
          have cc12_4 : v12.cell? ⟨w.heap.size + 1 + 1, 0, none⟩ = some (.int .i64 n) := (hb12.cell (p := ⟨w.heap.size + 1 + 1, 0, none⟩) (by first | omega | (simp [ext_size]; try omega))).trans (by (simp (maxDischargeDepth := 8) [go_sem, World.cell?_alloc_past, ltk2, ltk3, ltk4, ltk5, ltk6, ltk7, ltk8, ltk9, *]))
          have cc12_5 : v12.cell? ⟨w.heap.size + 1 + 1, 1, none⟩ = some (.int .i64 d) := (hb12.cell (p := ⟨w.heap.size + 1 + 1, 1, none⟩) (by first | omega | (simp [ext_size]; try omega))).trans (by (simp (maxDischargeDepth := 8) [go_sem, World.cell?_alloc_past, ltk2, ltk3, ltk4, ltk5, ltk6, ltk7, ltk8, ltk9, *]))
          have cc12_6 : v12.cell? ⟨w.heap.size + 1 + 1 + 1, 0, none⟩ = some (.int .i64 p) := (hb12.cell (p := ⟨w.heap.size + 1 + 1 + 1, 0, none⟩) (by first | omega | (simp [ext_size]; try omega))).trans (by (simp (maxDischargeDepth := 8) [go_sem, World.cell?_alloc_past, ltk2, ltk3, ltk4, ltk5, ltk6, ltk7, ltk8, ltk9, *]))
          have cc12_7 : v12.cell? ⟨w.heap.size + 1 + 1 + 1, 1, none⟩ = some (.int .i64 q) := (hb12.cell (p := ⟨w.heap.size + 1 + 1 + 1, 1, none⟩) (by first | omega | (simp [ext_size]; try omega))).trans (by (simp (maxDischargeDepth := 8) [go_sem, World.cell?_alloc_past, ltk2, ltk3, ltk4, ltk5, ltk6, ltk7, ltk8, ltk9, *]))
          have cc12_8 : v12.cell? ⟨v11.heap.size, 0, none⟩ = some (.int .i64 s0) := (hb12.cell (p := ⟨v11.heap.size, 0, none⟩) (by first | omega | (simp [ext_size]; try omega))).trans (by (simp (maxDischargeDepth := 8) [go_sem, World.cell?_alloc_past, ltk2, ltk3, ltk4, ltk5, ltk6, ltk7, ltk8, ltk9, *]))
          have cc12_9 : v12.cell? ⟨v11.heap.size, 1, none⟩ = some (.int .i64 s1) := (hb12.cell (p := ⟨v11.heap.size, 1, none⟩) (by first | omega | (simp [ext_size]; try omega))).trans (by (simp (maxDischargeDepth := 8) [go_sem, World.cell?_alloc_past, ltk2, ltk3, ltk4, ltk5, ltk6, ltk7, ltk8, ltk9, *]))
          have zl12_0 : w.heap.size < v12.heap.size := by omega
          have zl12_1 : w.heap.size + 1 < v12.heap.size := by omega
          have zl12_2 : w.heap.size + 1 + 1 < v12.heap.size := by omega
          have zl12_3 : w.heap.size + 1 + 1 + 1 < v12.heap.size := by omega
          have zl12_4 : v11.heap.size < v12.heap.size := by omega
          have hB12 : Below w.heap.size w v12 := Below.trans (by (repeat (first | with_reducible exact hB11 | (with_reducible refine bext ?_ _ _) | (with_reducible refine below_drewN ?_ _) | (with_reducible refine Below.drew ?_) | (with_reducible refine bal ?_ _) | (with_reducible refine bset ?_ (by first | omega | (simp <;> omega)) _)))) (hb12.mono (by first | omega | (simp [ext_size]; try omega)))
          clear hb12
          clear cc11_0 cc11_1 cc11_2 cc11_3 cc11_4 cc11_5 cc11_6 cc11_7 zl11_0 zl11_1 zl11_2 zl11_3 zz11 hB11
          go_wp2_with fail
          with_reducible refine (B1 _).mono ?_
          rintro e v13 ⟨rfl, hb13⟩
          have zz13 := hb13.size
          try simp [ext_size] at zz13
          have cc13_0 : v13.cell? ⟨w.heap.size, 0, none⟩ = some (.int .i64 a) := (hb13.cell (p := ⟨w.heap.size, 0, none⟩) (by first | omega | (simp [ext_size]; try omega))).trans (by (simp (maxDischargeDepth := 8) [go_sem, World.cell?_alloc_past, ltk2, ltk3, ltk4, ltk5, ltk6, ltk7, ltk8, ltk9, *]))
          have cc13_1 : v13.cell? ⟨w.heap.size, 1, none⟩ = some (.int .i64 b) := (hb13.cell (p := ⟨w.heap.size, 1, none⟩) (by first | omega | (simp [ext_size]; try omega))).trans (by (simp (maxDischargeDepth := 8) [go_sem, World.cell?_alloc_past, ltk2, ltk3, ltk4, ltk5, ltk6, ltk7, ltk8, ltk9, *]))
          have cc13_2 : v13.cell? ⟨w.heap.size + 1, 0, none⟩ = some (.int .i64 c) := (hb13.cell (p := ⟨w.heap.size + 1, 0, none⟩) (by first | omega | (simp [ext_size]; try omega))).trans (by (simp (maxDischargeDepth := 8) [go_sem, World.cell?_alloc_past, ltk2, ltk3, ltk4, ltk5, ltk6, ltk7, ltk8, ltk9, *]))
          have cc13_3 : v13.cell? ⟨w.heap.size + 1, 1, none⟩ = some (.int .i64 e) := (hb13.cell (p := ⟨w.heap.size + 1, 1, none⟩) (by first | omega | (simp [ext_size]; try omega))).trans (by (simp (maxDischargeDepth := 8) [go_sem, World.cell?_alloc_past, ltk2, ltk3, ltk4, ltk5, ltk6, ltk7, ltk8, ltk9, *]))
          have cc13_4 : v13.cell? ⟨w.heap.size + 1 + 1, 0, none⟩ = some (.int .i64 n) := (hb13.cell (p := ⟨w.heap.size + 1 + 1, 0, none⟩) (by first | omega | (simp [ext_size]; try omega))).trans (by (simp (maxDischargeDepth := 8) [go_sem, World.cell?_alloc_past, ltk2, ltk3, ltk4, ltk5, ltk6, ltk7, ltk8, ltk9, *]))
          have cc13_5 : v13.cell? ⟨w.heap.size + 1 + 1, 1, none⟩ = some (.int .i64 d) := (hb13.cell (p := ⟨w.heap.size + 1 + 1, 1, none⟩) (by first | omega | (simp [ext_size]; try omega))).trans (by (simp (maxDischargeDepth := 8) [go_sem, World.cell?_alloc_past, ltk2, ltk3, ltk4, ltk5, ltk6, ltk7, ltk8, ltk9, *]))
          have cc13_6 : v13.cell? ⟨w.heap.size + 1 + 1 + 1, 0, none⟩ = some (.int .i64 p) := (hb13.cell (p := ⟨w.heap.size + 1 + 1 + 1, 0, none⟩) (by first | omega | (simp [ext_size]; try omega))).trans (by (simp (maxDischargeDepth := 8) [go_sem, World.cell?_alloc_past, ltk2, ltk3, ltk4, ltk5, ltk6, ltk7, ltk8, ltk9, *]))
          have cc13_7 : v13.cell? ⟨w.heap.size + 1 + 1 + 1, 1, none⟩ = some (.int .i64 q) := (hb13.cell (p := ⟨w.heap.size + 1 + 1 + 1, 1, none⟩) (by first | omega | (simp [ext_size]; try omega))).trans (by (simp (maxDischargeDepth := 8) [go_sem, World.cell?_alloc_past, ltk2, ltk3, ltk4, ltk5, ltk6, ltk7, ltk8, ltk9, *]))
          have cc13_8 : v13.cell? ⟨v11.heap.size, 0, none⟩ = some (.int .i64 s0) := (hb13.cell (p := ⟨v11.heap.size, 0, none⟩) (by first | omega | (simp [ext_size]; try omega))).trans (by (simp (maxDischargeDepth := 8) [go_sem, World.cell?_alloc_past, ltk2, ltk3, ltk4, ltk5, ltk6, ltk7, ltk8, ltk9, *]))
          have cc13_9 : v13.cell? ⟨v11.heap.size, 1, none⟩ = some (.int .i64 s1) := (hb13.cell (p := ⟨v11.heap.size, 1, none⟩) (by first | omega | (simp [ext_size]; try omega))).trans (by (simp (maxDischargeDepth := 8) [go_sem, World.cell?_alloc_past, ltk2, ltk3, ltk4, ltk5, ltk6, ltk7, ltk8, ltk9, *]))
          have cc13_10 : v13.cell? ⟨v12.heap.size, 0, none⟩ = some (.int .i64 t0) := (hb13.cell (p := ⟨v12.heap.size, 0, none⟩) (by first | omega | (simp [ext_size]; try omega))).trans (by (simp (maxDischargeDepth := 8) [go_sem, World.cell?_alloc_past, ltk2, ltk3, ltk4, ltk5, ltk6, ltk7, ltk8, ltk9, *]))
          have cc13_11 : v13.cell? ⟨v12.heap.size, 1, none⟩ = some (.int .i64 t1) := (hb13.cell (p := ⟨v12.heap.size, 1, none⟩) (by first | omega | (simp [ext_size]; try omega))).trans (by (simp (maxDischargeDepth := 8) [go_sem, World.cell?_alloc_past, ltk2, ltk3, ltk4, ltk5, ltk6, ltk7, ltk8, ltk9, *]))
          have zl13_0 : w.heap.size < v13.heap.size := by omega
          have zl13_1 : w.heap.size + 1 < v13.heap.size := by omega
          have zl13_2 : w.heap.size + 1 + 1 < v13.heap.size := by omega
          have zl13_3 : w.heap.size + 1 + 1 + 1 < v13.heap.size := by omega
          have zl13_4 : v11.heap.size < v13.heap.size := by omega
          have zl13_5 : v12.heap.size < v13.heap.size := by omega
          have hB13 : Below w.heap.size w v13 := Below.trans (by (repeat (first | with_reducible exact hB12 | (with_reducible refine bext ?_ _ _) | (with_reducible refine below_drewN ?_ _) | (with_reducible refine Below.drew ?_) | (with_reducible refine bal ?_ _) | (with_reducible refine bset ?_ (by first | omega | (simp <;> omega)) _)))) (hb13.mono (by first | omega | (simp [ext_size]; try omega)))
          clear hb13
          clear cc12_0 cc12_1 cc12_2 cc12_3 cc12_4 cc12_5 cc12_6 cc12_7 cc12_8 cc12_9 zl12_0 zl12_1 zl12_2 zl12_3 zl12_4 zz12 hB12
          go_wp2_with fail
          with_reducible refine (B2 _).mono ?_
          rintro e v14 ⟨rfl, hb14⟩
          have zz14 := hb14.size
          try simp [ext_size] at zz14
          have cc14_0 : v14.cell? ⟨w.heap.size, 0, none⟩ = some (.int .i64 a) := (hb14.cell (p := ⟨w.heap.size, 0, none⟩) (by first | omega | (simp [ext_size]; try omega))).trans (by (simp (maxDischargeDepth := 8) [go_sem, World.cell?_alloc_past, ltk2, ltk3, ltk4, ltk5, ltk6, ltk7, ltk8, ltk9, *]))
          have cc14_1 : v14.cell? ⟨w.heap.size, 1, none⟩ = some (.int .i64 b) := (hb14.cell (p := ⟨w.heap.size, 1, none⟩) (by first | omega | (simp [ext_size]; try omega))).trans (by (simp (maxDischargeDepth := 8) [go_sem, World.cell?_alloc_past, ltk2, ltk3, ltk4, ltk5, ltk6, ltk7, ltk8, ltk9, *]))
          have cc14_2 : v14.cell? ⟨w.heap.size + 1, 0, none⟩ = some (.int .i64 c) := (hb14.cell (p := ⟨w.heap.size + 1, 0, none⟩) (by first | omega | (simp [ext_size]; try omega))).trans (by (simp (maxDischargeDepth := 8) [go_sem, World.cell?_alloc_past, ltk2, ltk3, ltk4, ltk5, ltk6, ltk7, ltk8, ltk9, *]))
          have cc14_3 : v14.cell? ⟨w.heap.size + 1, 1, none⟩ = some (.int .i64 e) := (hb14.cell (p := ⟨w.heap.size + 1, 1, none⟩) (by first | omega | (simp [ext_size]; try omega))).trans (by (simp (maxDischargeDepth := 8) [go_sem, World.cell?_alloc_past, ltk2, ltk3, ltk4, ltk5, ltk6, ltk7, ltk8, ltk9, *]))
          have cc14_4 : v14.cell? ⟨w.heap.size + 1 + 1, 0, none⟩ = some (.int .i64 n) := (hb14.cell (p := ⟨w.heap.size + 1 + 1, 0, none⟩) (by first | omega | (simp [ext_size]; try omega))).trans (by (simp (maxDischargeDepth := 8) [go_sem, World.cell?_alloc_past, ltk2, ltk3, ltk4, ltk5, ltk6, ltk7, ltk8, ltk9, *]))
          have cc14_5 : v14.cell? ⟨w.heap.size + 1 + 1, 1, none⟩ = some (.int .i64 d) := (hb14.cell (p := ⟨w.heap.size + 1 + 1, 1, none⟩) (by first | omega | (simp [ext_size]; try omega))).trans (by (simp (maxDischargeDepth := 8) [go_sem, World.cell?_alloc_past, ltk2, ltk3, ltk4, ltk5, ltk6, ltk7, ltk8, ltk9, *]))
          have cc14_6 : v14.cell? ⟨w.heap.size + 1 + 1 + 1, 0, none⟩ = some (.int .i64 p) := (hb14.cell (p := ⟨w.heap.size + 1 + 1 + 1, 0, none⟩) (by first | omega | (simp [ext_size]; try omega))).trans (by (simp (maxDischargeDepth := 8) [go_sem, World.cell?_alloc_past, ltk2, ltk3, ltk4, ltk5, ltk6, ltk7, ltk8, ltk9, *]))
          have cc14_7 : v14.cell? ⟨w.heap.size + 1 + 1 + 1, 1, none⟩ = some (.int .i64 q) := (hb14.cell (p := ⟨w.heap.size + 1 + 1 + 1, 1, none⟩) (by first | omega | (simp [ext_size]; try omega))).trans (by (simp (maxDischargeDepth := 8) [go_sem, World.cell?_alloc_past, ltk2, ltk3, ltk4, ltk5, ltk6, ltk7, ltk8, ltk9, *]))
          have cc14_8 : v14.cell? ⟨v11.heap.size, 0, none⟩ = some (.int .i64 s0) := (hb14.cell (p := ⟨v11.heap.size, 0, none⟩) (by first | omega | (simp [ext_size]; try omega))).trans (by (simp (maxDischargeDepth := 8) [go_sem, World.cell?_alloc_past, ltk2, ltk3, ltk4, ltk5, ltk6, ltk7, ltk8, ltk9, *]))
          have cc14_9 : v14.cell? ⟨v11.heap.size, 1, none⟩ = some (.int .i64 s1) := (hb14.cell (p := ⟨v11.heap.size, 1, none⟩) (by first | omega | (simp [ext_size]; try omega))).trans (by (simp (maxDischargeDepth := 8) [go_sem, World.cell?_alloc_past, ltk2, ltk3, ltk4, ltk5, ltk6, ltk7, ltk8, ltk9, *]))
          have cc14_10 : v14.cell? ⟨v12.heap.size, 0, none⟩ = some (.int .i64 t0) := (hb14.cell (p := ⟨v12.heap.size, 0, none⟩) (by first | omega | (simp [ext_size]; try omega))).trans (by (simp (maxDischargeDepth := 8) [go_sem, World.cell?_alloc_past, ltk2, ltk3, ltk4, ltk5, ltk6, ltk7, ltk8, ltk9, *]))
          have cc14_11 : v14.cell? ⟨v12.heap.size, 1, none⟩ = some (.int .i64 t1) := (hb14.cell (p := ⟨v12.heap.size, 1, none⟩) (by first | omega | (simp [ext_size]; try omega))).trans (by (simp (maxDischargeDepth := 8) [go_sem, World.cell?_alloc_past, ltk2, ltk3, ltk4, ltk5, ltk6, ltk7, ltk8, ltk9, *]))
          have cc14_12 : v14.cell? ⟨v13.heap.size, 0, none⟩ = some (.int .i64 u0) := (hb14.cell (p := ⟨v13.heap.size, 0, none⟩) (by first | omega | (simp [ext_size]; try omega))).trans (by (simp (maxDischargeDepth := 8) [go_sem, World.cell?_alloc_past, ltk2, ltk3, ltk4, ltk5, ltk6, ltk7, ltk8, ltk9, *]))
          have cc14_13 : v14.cell? ⟨v13.heap.size, 1, none⟩ = some (.int .i64 u1) := (hb14.cell (p := ⟨v13.heap.size, 1, none⟩) (by first | omega | (simp [ext_size]; try omega))).trans (by (simp (maxDischargeDepth := 8) [go_sem, World.cell?_alloc_past, ltk2, ltk3, ltk4, ltk5, ltk6, ltk7, ltk8, ltk9, *]))
          have zl14_0 : w.heap.size < v14.heap.size := by omega
          have zl14_1 : w.heap.size + 1 < v14.heap.size := by omega
          have zl14_2 : w.heap.size + 1 + 1 < v14.heap.size := by omega
          have zl14_3 : w.heap.size + 1 + 1 + 1 < v14.heap.size := by omega
          have zl14_4 : v11.heap.size < v14.heap.size := by omega
          have zl14_5 : v12.heap.size < v14.heap.size := by omega
          have zl14_6 : v13.heap.size < v14.heap.size := by omega
          have hB14 : Below w.heap.size w v14 := Below.trans (by (repeat (first | with_reducible exact hB13 | (with_reducible refine bext ?_ _ _) | (with_reducible refine below_drewN ?_ _) | (with_reducible refine Below.drew ?_) | (with_reducible refine bal ?_ _) | (with_reducible refine bset ?_ (by first | omega | (simp <;> omega)) _)))) (hb14.mono (by first | omega | (simp [ext_size]; try omega)))
          clear hb14
          clear cc13_0 cc13_1 cc13_2 cc13_3 cc13_4 cc13_5 cc13_6 cc13_7 cc13_8 cc13_9 cc13_10 cc13_11 zl13_0 zl13_1 zl13_2 zl13_3 zl13_4 zl13_5 zz13 hB13
          go_wp2_with fail
          with_reducible refine (B3 _).mono ?_
          rintro e v15 ⟨rfl, hb15⟩
          have zz15 := hb15.size
          try simp [ext_size] at zz15
          have cc15_0 : v15.cell? ⟨w.heap.size, 0, none⟩ = some (.int .i64 a) := (hb15.cell (p := ⟨w.heap.size, 0, none⟩) (by first | omega | (simp [ext_size]; try omega))).trans (by (simp (maxDischargeDepth := 8) [go_sem, World.cell?_alloc_past, ltk2, ltk3, ltk4, ltk5, ltk6, ltk7, ltk8, ltk9, *]))
          have cc15_1 : v15.cell? ⟨w.heap.size, 1, none⟩ = some (.int .i64 b) := (hb15.cell (p := ⟨w.heap.size, 1, none⟩) (by first | omega | (simp [ext_size]; try omega))).trans (by (simp (maxDischargeDepth := 8) [go_sem, World.cell?_alloc_past, ltk2, ltk3, ltk4, ltk5, ltk6, ltk7, ltk8, ltk9, *]))
          have cc15_2 : v15.cell? ⟨w.heap.size + 1, 0, none⟩ = some (.int .i64 c) := (hb15.cell (p := ⟨w.heap.size + 1, 0, none⟩) (by first | omega | (simp [ext_size]; try omega))).trans (by (simp (maxDischargeDepth := 8) [go_sem, World.cell?_alloc_past, ltk2, ltk3, ltk4, ltk5, ltk6, ltk7, ltk8, ltk9, *]))
          have cc15_3 : v15.cell? ⟨w.heap.size + 1, 1, none⟩ = some (.int .i64 e) := (hb15.cell (p := ⟨w.heap.size + 1, 1, none⟩) (by first | omega | (simp [ext_size]; try omega))).trans (by (simp (maxDischargeDepth := 8) [go_sem, World.cell?_alloc_past, ltk2, ltk3, ltk4, ltk5, ltk6, ltk7, ltk8, ltk9, *]))
          have cc15_4 : v15.cell? ⟨w.heap.size + 1 + 1, 0, none⟩ = some (.int .i64 n) := (hb15.cell (p := ⟨w.heap.size + 1 + 1, 0, none⟩) (by first | omega | (simp [ext_size]; try omega))).trans (by (simp (maxDischargeDepth := 8) [go_sem, World.cell?_alloc_past, ltk2, ltk3, ltk4, ltk5, ltk6, ltk7, ltk8, ltk9, *]))
          have cc15_5 : v15.cell? ⟨w.heap.size + 1 + 1, 1, none⟩ = some (.int .i64 d) := (hb15.cell (p := ⟨w.heap.size + 1 + 1, 1, none⟩) (by first | omega | (simp [ext_size]; try omega))).trans (by (simp (maxDischargeDepth := 8) [go_sem, World.cell?_alloc_past, ltk2, ltk3, ltk4, ltk5, ltk6, ltk7, ltk8, ltk9, *]))
          have cc15_6 : v15.cell? ⟨w.heap.size + 1 + 1 + 1, 0, none⟩ = some (.int .i64 p) := (hb15.cell (p := ⟨w.heap.size + 1 + 1 + 1, 0, none⟩) (by first | omega | (simp [ext_size]; try omega))).trans (by (simp (maxDischargeDepth := 8) [go_sem, World.cell?_alloc_past, ltk2, ltk3, ltk4, ltk5, ltk6, ltk7, ltk8, ltk9, *]))
          have cc15_7 : v15.cell? ⟨w.heap.size + 1 + 1 + 1, 1, none⟩ = some (.int .i64 q) := (hb15.cell (p := ⟨w.heap.size + 1 + 1 + 1, 1, none⟩) (by first | omega | (simp [ext_size]; try omega))).trans (by (simp (maxDischargeDepth := 8) [go_sem, World.cell?_alloc_past, ltk2, ltk3, ltk4, ltk5, ltk6, ltk7, ltk8, ltk9, *]))
          have cc15_8 : v15.cell? ⟨v11.heap.size, 0, none⟩ = some (.int .i64 s0) := (hb15.cell (p := ⟨v11.heap.size, 0, none⟩) (by first | omega | (simp [ext_size]; try omega))).trans (by (simp (maxDischargeDepth := 8) [go_sem, World.cell?_alloc_past, ltk2, ltk3, ltk4, ltk5, ltk6, ltk7, ltk8, ltk9, *]))
          have cc15_9 : v15.cell? ⟨v11.heap.size, 1, none⟩ = some (.int .i64 s1) := (hb15.cell (p := ⟨v11.heap.size, 1, none⟩) (by first | omega | (simp [ext_size]; try omega))).trans (by (simp (maxDischargeDepth := 8) [go_sem, World.cell?_alloc_past, ltk2, ltk3, ltk4, ltk5, ltk6, ltk7, ltk8, ltk9, *]))
          have cc15_10 : v15.cell? ⟨v12.heap.size, 0, none⟩ = some (.int .i64 t0) := (hb15.cell (p := ⟨v12.heap.size, 0, none⟩) (by first | omega | (simp [ext_size]; try omega))).trans (by (simp (maxDischargeDepth := 8) [go_sem, World.cell?_alloc_past, ltk2, ltk3, ltk4, ltk5, ltk6, ltk7, ltk8, ltk9, *]))
          have cc15_11 : v15.cell? ⟨v12.heap.size, 1, none⟩ = some (.int .i64 t1) := (hb15.cell (p := ⟨v12.heap.size, 1, none⟩) (by first | omega | (simp [ext_size]; try omega))).trans (by (simp (maxDischargeDepth := 8) [go_sem, World.cell?_alloc_past, ltk2, ltk3, ltk4, ltk5, ltk6, ltk7, ltk8, ltk9, *]))
          have cc15_12 : v15.cell? ⟨v13.heap.size, 0, none⟩ = some (.int .i64 u0) := (hb15.cell (p := ⟨v13.heap.size, 0, none⟩) (by first | omega | (simp [ext_size]; try omega))).trans (by (simp (maxDischargeDepth := 8) [go_sem, World.cell?_alloc_past, ltk2, ltk3, ltk4, ltk5, ltk6, ltk7, ltk8, ltk9, *]))
          have cc15_13 : v15.cell? ⟨v13.heap.size, 1, none⟩ = some (.int .i64 u1) := (hb15.cell (p := ⟨v13.heap.size, 1, none⟩) (by first | omega | (simp [ext_size]; try omega))).trans (by (simp (maxDischargeDepth := 8) [go_sem, World.cell?_alloc_past, ltk2, ltk3, ltk4, ltk5, ltk6, ltk7, ltk8, ltk9, *]))
          have cc15_14 : v15.cell? ⟨v14.heap.size, 0, none⟩ = some (.int .i64 x0) := (hb15.cell (p := ⟨v14.heap.size, 0, none⟩) (by first | omega | (simp [ext_size]; try omega))).trans (by (simp (maxDischargeDepth := 8) [go_sem, World.cell?_alloc_past, ltk2, ltk3, ltk4, ltk5, ltk6, ltk7, ltk8, ltk9, *]))
          have cc15_15 : v15.cell? ⟨v14.heap.size, 1, none⟩ = some (.int .i64 x1) := (hb15.cell (p := ⟨v14.heap.size, 1, none⟩) (by first | omega | (simp [ext_size]; try omega))).trans (by (simp (maxDischargeDepth := 8) [go_sem, World.cell?_alloc_past, ltk2, ltk3, ltk4, ltk5, ltk6, ltk7, ltk8, ltk9, *]))
          have zl15_0 : w.heap.size < v15.heap.size := by omega
          have zl15_1 : w.heap.size + 1 < v15.heap.size := by omega
          have zl15_2 : w.heap.size + 1 + 1 < v15.heap.size := by omega
          have zl15_3 : w.heap.size + 1 + 1 + 1 < v15.heap.size := by omega
          have zl15_4 : v11.heap.size < v15.heap.size := by omega
          have zl15_5 : v12.heap.size < v15.heap.size := by omega
          have zl15_6 : v13.heap.size < v15.heap.size := by omega
          have zl15_7 : v14.heap.size < v15.heap.size := by omega
          have hB15 : Below w.heap.size w v15 := Below.trans (by (repeat (first | with_reducible exact hB14 | (with_reducible refine bext ?_ _ _) | (with_reducible refine below_drewN ?_ _) | (with_reducible refine Below.drew ?_) | (with_reducible refine bal ?_ _) | (with_reducible refine bset ?_ (by first | omega | (simp <;> omega)) _)))) (hb15.mono (by first | omega | (simp [ext_size]; try omega)))
          clear hb15
          clear cc14_0 cc14_1 cc14_2 cc14_3 cc14_4 cc14_5 cc14_6 cc14_7 cc14_8 cc14_9 cc14_10 cc14_11 cc14_12 cc14_13 zl14_0 zl14_1 zl14_2 zl14_3 zl14_4 zl14_5 zl14_6 zz14 hB14
          go_wp2_with fail
          with_reducible refine (B4 _).mono ?_
          rintro e v16 ⟨rfl, hb16⟩
          have zz16 := hb16.size
          try simp [ext_size] at zz16
          have cc16_0 : v16.cell? ⟨w.heap.size, 0, none⟩ = some (.int .i64 a) := (hb16.cell (p := ⟨w.heap.size, 0, none⟩) (by first | omega | (simp [ext_size]; try omega))).trans (by (simp (maxDischargeDepth := 8) [go_sem, World.cell?_alloc_past, ltk2, ltk3, ltk4, ltk5, ltk6, ltk7, ltk8, ltk9, *]))
          have cc16_1 : v16.cell? ⟨w.heap.size, 1, none⟩ = some (.int .i64 b) := (hb16.cell (p := ⟨w.heap.size, 1, none⟩) (by first | omega | (simp [ext_size]; try omega))).trans (by (simp (maxDischargeDepth := 8) [go_sem, World.cell?_alloc_past, ltk2, ltk3, ltk4, ltk5, ltk6, ltk7, ltk8, ltk9, *]))
          have cc16_2 : v16.cell? ⟨w.heap.size + 1, 0, none⟩ = some (.int .i64 c) := (hb16.cell (p := ⟨w.heap.size + 1, 0, none⟩) (by first | omega | (simp [ext_size]; try omega))).trans (by (simp (maxDischargeDepth := 8) [go_sem, World.cell?_alloc_past, ltk2, ltk3, ltk4, ltk5, ltk6, ltk7, ltk8, ltk9, *]))
          have cc16_3 : v16.cell? ⟨w.heap.size + 1, 1, none⟩ = some (.int .i64 e) := (hb16.cell (p := ⟨w.heap.size + 1, 1, none⟩) (by first | omega | (simp [ext_size]; try omega))).trans (by (simp (maxDischargeDepth := 8) [go_sem, World.cell?_alloc_past, ltk2, ltk3, ltk4, ltk5, ltk6, ltk7, ltk8, ltk9, *]))
          have cc16_4 : v16.cell? ⟨w.heap.size + 1 + 1, 0, none⟩ = some (.int .i64 n) := (hb16.cell (p := ⟨w.heap.size + 1 + 1, 0, none⟩) (by first | omega | (simp [ext_size]; try omega))).trans (by (simp (maxDischargeDepth := 8) [go_sem, World.cell?_alloc_past, ltk2, ltk3, ltk4, ltk5, ltk6, ltk7, ltk8, ltk9, *]))
          have cc16_5 : v16.cell? ⟨w.heap.size + 1 + 1, 1, none⟩ = some (.int .i64 d) := (hb16.cell (p := ⟨w.heap.size + 1 + 1, 1, none⟩) (by first | omega | (simp [ext_size]; try omega))).trans (by (simp (maxDischargeDepth := 8) [go_sem, World.cell?_alloc_past, ltk2, ltk3, ltk4, ltk5, ltk6, ltk7, ltk8, ltk9, *]))
          have cc16_6 : v16.cell? ⟨w.heap.size + 1 + 1 + 1, 0, none⟩ = some (.int .i64 p) := (hb16.cell (p := ⟨w.heap.size + 1 + 1 + 1, 0, none⟩) (by first | omega | (simp [ext_size]; try omega))).trans (by (simp (maxDischargeDepth := 8) [go_sem, World.cell?_alloc_past, ltk2, ltk3, ltk4, ltk5, ltk6, ltk7, ltk8, ltk9, *]))
          have cc16_7 : v16.cell? ⟨w.heap.size + 1 + 1 + 1, 1, none⟩ = some (.int .i64 q) := (hb16.cell (p := ⟨w.heap.size + 1 + 1 + 1, 1, none⟩) (by first | omega | (simp [ext_size]; try omega))).trans (by (simp (maxDischargeDepth := 8) [go_sem, World.cell?_alloc_past, ltk2, ltk3, ltk4, ltk5, ltk6, ltk7, ltk8, ltk9, *]))
          have cc16_8 : v16.cell? ⟨v11.heap.size, 0, none⟩ = some (.int .i64 s0) := (hb16.cell (p := ⟨v11.heap.size, 0, none⟩) (by first | omega | (simp [ext_size]; try omega))).trans (by (simp (maxDischargeDepth := 8) [go_sem, World.cell?_alloc_past, ltk2, ltk3, ltk4, ltk5, ltk6, ltk7, ltk8, ltk9, *]))
          have cc16_9 : v16.cell? ⟨v11.heap.size, 1, none⟩ = some (.int .i64 s1) := (hb16.cell (p := ⟨v11.heap.size, 1, none⟩) (by first | omega | (simp [ext_size]; try omega))).trans (by (simp (maxDischargeDepth := 8) [go_sem, World.cell?_alloc_past, ltk2, ltk3, ltk4, ltk5, ltk6, ltk7, ltk8, ltk9, *]))
          have cc16_10 : v16.cell? ⟨v12.heap.size, 0, none⟩ = some (.int .i64 t0) := (hb16.cell (p := ⟨v12.heap.size, 0, none⟩) (by first | omega | (simp [ext_size]; try omega))).trans (by (simp (maxDischargeDepth := 8) [go_sem, World.cell?_alloc_past, ltk2, ltk3, ltk4, ltk5, ltk6, ltk7, ltk8, ltk9, *]))
          have cc16_11 : v16.cell? ⟨v12.heap.size, 1, none⟩ = some (.int .i64 t1) := (hb16.cell (p := ⟨v12.heap.size, 1, none⟩) (by first | omega | (simp [ext_size]; try omega))).trans (by (simp (maxDischargeDepth := 8) [go_sem, World.cell?_alloc_past, ltk2, ltk3, ltk4, ltk5, ltk6, ltk7, ltk8, ltk9, *]))
          have cc16_12 : v16.cell? ⟨v13.heap.size, 0, none⟩ = some (.int .i64 u0) := (hb16.cell (p := ⟨v13.heap.size, 0, none⟩) (by first | omega | (simp [ext_size]; try omega))).trans (by (simp (maxDischargeDepth := 8) [go_sem, World.cell?_alloc_past, ltk2, ltk3, ltk4, ltk5, ltk6, ltk7, ltk8, ltk9, *]))
          have cc16_13 : v16.cell? ⟨v13.heap.size, 1, none⟩ = some (.int .i64 u1) := (hb16.cell (p := ⟨v13.heap.size, 1, none⟩) (by first | omega | (simp [ext_size]; try omega))).trans (by (simp (maxDischargeDepth := 8) [go_sem, World.cell?_alloc_past, ltk2, ltk3, ltk4, ltk5, ltk6, ltk7, ltk8, ltk9, *]))
          have cc16_14 : v16.cell? ⟨v14.heap.size, 0, none⟩ = some (.int .i64 x0) := (hb16.cell (p := ⟨v14.heap.size, 0, none⟩) (by first | omega | (simp [ext_size]; try omega))).trans (by (simp (maxDischargeDepth := 8) [go_sem, World.cell?_alloc_past, ltk2, ltk3, ltk4, ltk5, ltk6, ltk7, ltk8, ltk9, *]))
          have cc16_15 : v16.cell? ⟨v14.heap.size, 1, none⟩ = some (.int .i64 x1) := (hb16.cell (p := ⟨v14.heap.size, 1, none⟩) (by first | omega | (simp [ext_size]; try omega))).trans (by (simp (maxDischargeDepth := 8) [go_sem, World.cell?_alloc_past, ltk2, ltk3, ltk4, ltk5, ltk6, ltk7, ltk8, ltk9, *]))
          have cc16_16 : v16.cell? ⟨v15.heap.size, 0, none⟩ = some (.int .i64 y0) := (hb16.cell (p := ⟨v15.heap.size, 0, none⟩) (by first | omega | (simp [ext_size]; try omega))).trans (by (simp (maxDischargeDepth := 8) [go_sem, World.cell?_alloc_past, ltk2, ltk3, ltk4, ltk5, ltk6, ltk7, ltk8, ltk9, *]))
          have cc16_17 : v16.cell? ⟨v15.heap.size, 1, none⟩ = some (.int .i64 y1) := (hb16.cell (p := ⟨v15.heap.size, 1, none⟩) (by first | omega | (simp [ext_size]; try omega))).trans (by (simp (maxDischargeDepth := 8) [go_sem, World.cell?_alloc_past, ltk2, ltk3, ltk4, ltk5, ltk6, ltk7, ltk8, ltk9, *]))
          have zl16_0 : w.heap.size < v16.heap.size := by omega
          have zl16_1 : w.heap.size + 1 < v16.heap.size := by omega
          have zl16_2 : w.heap.size + 1 + 1 < v16.heap.size := by omega
          have zl16_3 : w.heap.size + 1 + 1 + 1 < v16.heap.size := by omega
          have zl16_4 : v11.heap.size < v16.heap.size := by omega
          have zl16_5 : v12.heap.size < v16.heap.size := by omega
          have zl16_6 : v13.heap.size < v16.heap.size := by omega
          have zl16_7 : v14.heap.size < v16.heap.size := by omega
          have zl16_8 : v15.heap.size < v16.heap.size := by omega
          have hB16 : Below w.heap.size w v16 := Below.trans (by (repeat (first | with_reducible exact hB15 | (with_reducible refine bext ?_ _ _) | (with_reducible refine below_drewN ?_ _) | (with_reducible refine Below.drew ?_) | (with_reducible refine bal ?_ _) | (with_reducible refine bset ?_ (by first | omega | (simp <;> omega)) _)))) (hb16.mono (by first | omega | (simp [ext_size]; try omega)))
          clear hb16
          clear cc15_0 cc15_1 cc15_2 cc15_3 cc15_4 cc15_5 cc15_6 cc15_7 cc15_8 cc15_9 cc15_10 cc15_11 cc15_12 cc15_13 cc15_14 cc15_15 zl15_0 zl15_1 zl15_2 zl15_3 zl15_4 zl15_5 zl15_6 zl15_7 zz15 hB15
          clear A6 A7 A8 A9 B1 B2 B3 B4
          go_wp2_with (first | (go_at_call 33; with_reducible refine (I1.out (by first | assumption | rfl) (by first | assumption | rfl) _).mono ?_; rintro e w9 ⟨rfl, hb9⟩; obtain ⟨l9, d9, rfl⟩ := toExt hb9; clear hb9) | (go_at_call 33; with_reducible refine (I2.out (by first | assumption | rfl) (by first | assumption | rfl) _).mono ?_; rintro e w9 ⟨rfl, hb9⟩; obtain ⟨l9, d9, rfl⟩ := toExt hb9; clear hb9) | (go_at_call 33; with_reducible refine (I3.out (by first | assumption | rfl) (by first | assumption | rfl) _).mono ?_; rintro e w9 ⟨rfl, hb9⟩; obtain ⟨l9, d9, rfl⟩ := toExt hb9; clear hb9) | (go_at_call 20; with_reducible refine (AL _).mono ?_; rintro e w9 ⟨rfl, hb9⟩; obtain ⟨l9, d9, rfl⟩ := toExt hb9; clear hb9))
          all_goals go_ret
          all_goals exact ⟨rfl, by (repeat (first | with_reducible exact hB16 | (with_reducible refine bext ?_ _ _) | (with_reducible refine below_drewN ?_ _) | (with_reducible refine Below.drew ?_) | (with_reducible refine bal ?_ _) | (with_reducible refine bset ?_ (by first | omega | (simp <;> omega)) _)))⟩
        ·
          have hC' : inB c e p q = false := by simpa using hC
          rw [hA] at A6
          rw [hC'] at A7
          clear IA IB IC hA hC hC' A8 A9 B1 B2 B3 B4
          go_wp2_with fail
          with_reducible refine (A6 _).mono ?_
          rintro e v17 ⟨rfl, hb17⟩
          have zz17 := hb17.size
          try simp [ext_size] at zz17
          have cc17_0 : v17.cell? ⟨w.heap.size, 0, none⟩ = some (.int .i64 a) := (hb17.cell (p := ⟨w.heap.size, 0, none⟩) (by first | omega | (simp [ext_size]; try omega))).trans (by (simp (maxDischargeDepth := 8) [go_sem, World.cell?_alloc_past, ltk2, ltk3, ltk4, ltk5, ltk6, ltk7, ltk8, ltk9, *]))
          have cc17_1 : v17.cell? ⟨w.heap.size, 1, none⟩ = some (.int .i64 b) := (hb17.cell (p := ⟨w.heap.size, 1, none⟩) (by first | omega | (simp [ext_size]; try omega))).trans (by (simp (maxDischargeDepth := 8) [go_sem, World.cell?_alloc_past, ltk2, ltk3, ltk4, ltk5, ltk6, ltk7, ltk8, ltk9, *]))
          have cc17_2 : v17.cell? ⟨w.heap.size + 1, 0, none⟩ = some (.int .i64 c) := (hb17.cell (p := ⟨w.heap.size + 1, 0, none⟩) (by first | omega | (simp [ext_size]; try omega))).trans (by (simp (maxDischargeDepth := 8) [go_sem, World.cell?_alloc_past, ltk2, ltk3, ltk4, ltk5, ltk6, ltk7, ltk8, ltk9, *]))
          have cc17_3 : v17.cell? ⟨w.heap.size + 1, 1, none⟩ = some (.int .i64 e) := (hb17.cell (p := ⟨w.heap.size + 1, 1, none⟩) (by first | omega | (simp [ext_size]; try omega))).trans (by (simp (maxDischargeDepth := 8) [go_sem, World.cell?_alloc_past, ltk2, ltk3, ltk4, ltk5, ltk6, ltk7, ltk8, ltk9, *]))
          have cc17_4 : v17.cell? ⟨w.heap.size + 1 + 1, 0, none⟩ = some (.int .i64 n) := (hb17.cell (p := ⟨w.heap.size + 1 + 1, 0, none⟩) (by first | omega | (simp [ext_size]; try omega))).trans (by (simp (maxDischargeDepth := 8) [go_sem, World.cell?_alloc_past, ltk2, ltk3, ltk4, ltk5, ltk6, ltk7, ltk8, ltk9, *]))
          have cc17_5 : v17.cell? ⟨w.heap.size + 1 + 1, 1, none⟩ = some (.int .i64 d) := (hb17.cell (p := ⟨w.heap.size + 1 + 1, 1, none⟩) (by first | omega | (simp [ext_size]; try omega))).trans (by (simp (maxDischargeDepth := 8) [go_sem, World.cell?_alloc_past, ltk2, ltk3, ltk4, ltk5, ltk6, ltk7, ltk8, ltk9, *]))
          have cc17_6 : v17.cell? ⟨w.heap.size + 1 + 1 + 1, 0, none⟩ = some (.int .i64 p) := (hb17.cell (p := ⟨w.heap.size + 1 + 1 + 1, 0, none⟩) (by first | omega | (simp [ext_size]; try omega))).trans (by (simp (maxDischargeDepth := 8) [go_sem, World.cell?_alloc_past, ltk2, ltk3, ltk4, ltk5, ltk6, ltk7, ltk8, ltk9, *]))
          have cc17_7 : v17.cell? ⟨w.heap.size + 1 + 1 + 1, 1, none⟩ = some (.int .i64 q) := (hb17.cell (p := ⟨w.heap.size + 1 + 1 + 1, 1, none⟩) (by first | omega | (simp [ext_size]; try omega))).trans (by (simp (maxDischargeDepth := 8) [go_sem, World.cell?_alloc_past, ltk2, ltk3, ltk4, ltk5, ltk6, ltk7, ltk8, ltk9, *]))
          have zl17_0 : w.heap.size < v17.heap.size := by omega
          have zl17_1 : w.heap.size + 1 < v17.heap.size := by omega
          have zl17_2 : w.heap.size + 1 + 1 < v17.heap.size := by omega
          have zl17_3 : w.heap.size + 1 + 1 + 1 < v17.heap.size := by omega
          have hB17 : Below w.heap.size w v17 := Below.trans (by (repeat (first | with_reducible exact jB | (with_reducible refine bext ?_ _ _) | (with_reducible refine below_drewN ?_ _) | (with_reducible refine Below.drew ?_) | (with_reducible refine bal ?_ _) | (with_reducible refine bset ?_ (by first | omega | (simp <;> omega)) _)))) (hb17.mono (by first | omega | (simp [ext_size]; try omega)))
          clear hb17
          go_wp2_with fail
          with_reducible refine (A7 _).mono ?_
          rintro e v18 ⟨rfl, hb18⟩
          have zz18 := hb18.size
          try simp [ext_size] at zz18
          have cc18_0 : v18.cell? ⟨w.heap.size, 0, none⟩ = some (.int .i64 a) := (hb18.cell (p := ⟨w.heap.size, 0, none⟩) (by first | omega | (simp [ext_size]; try omega))).trans (by (simp (maxDischargeDepth := 8) [go_sem, World.cell?_alloc_past, ltk2, ltk3, ltk4, ltk5, ltk6, ltk7, ltk8, ltk9, *]))
          have cc18_1 : v18.cell? ⟨w.heap.size, 1, none⟩ = some (.int .i64 b) := (hb18.cell (p := ⟨w.heap.size, 1, none⟩) (by first | omega | (simp [ext_size]; try omega))).trans (by (simp (maxDischargeDepth := 8) [go_sem, World.cell?_alloc_past, ltk2, ltk3, ltk4, ltk5, ltk6, ltk7, ltk8, ltk9, *]))
          have cc18_2 : v18.cell? ⟨w.heap.size + 1, 0, none⟩ = some (.int .i64 c) := (hb18.cell (p := ⟨w.heap.size + 1, 0, none⟩) (by first | omega | (simp [ext_size]; try omega))).trans (by (simp (maxDischargeDepth := 8) [go_sem, World.cell?_alloc_past, ltk2, ltk3, ltk4, ltk5, ltk6, ltk7, ltk8, ltk9, *]))
          have cc18_3 : v18.cell? ⟨w.heap.size + 1, 1, none⟩ = some (.int .i64 e) := (hb18.cell (p := ⟨w.heap.size + 1, 1, none⟩) (by first | omega | (simp [ext_size]; try omega))).trans (by (simp (maxDischargeDepth := 8) [go_sem, World.cell?_alloc_past, ltk2, ltk3, ltk4, ltk5, ltk6, ltk7, ltk8, ltk9, *]))
          have cc18_4 : v18.cell? ⟨w.heap.size + 1 + 1, 0, none⟩ = some (.int .i64 n) := (hb18.cell (p := ⟨w.heap.size + 1 + 1, 0, none⟩) (by first | omega | (simp [ext_size]; try omega))).trans (by (simp (maxDischargeDepth := 8) [go_sem, World.cell?_alloc_past, ltk2, ltk3, ltk4, ltk5, ltk6, ltk7, ltk8, ltk9, *]))
          have cc18_5 : v18.cell? ⟨w.heap.size + 1 + 1, 1, none⟩ = some (.int .i64 d) := (hb18.cell (p := ⟨w.heap.size + 1 + 1, 1, none⟩) (by first | omega | (simp [ext_size]; try omega))).trans (by (simp (maxDischargeDepth := 8) [go_sem, World.cell?_alloc_past, ltk2, ltk3, ltk4, ltk5, ltk6, ltk7, ltk8, ltk9, *]))
          have cc18_6 : v18.cell? ⟨w.heap.size + 1 + 1 + 1, 0, none⟩ = some (.int .i64 p) := (hb18.cell (p := ⟨w.heap.size + 1 + 1 + 1, 0, none⟩) (by first | omega | (simp [ext_size]; try omega))).trans (by (simp (maxDischargeDepth := 8) [go_sem, World.cell?_alloc_past, ltk2, ltk3, ltk4, ltk5, ltk6, ltk7, ltk8, ltk9, *]))
          have cc18_7 : v18.cell? ⟨w.heap.size + 1 + 1 + 1, 1, none⟩ = some (.int .i64 q) := (hb18.cell (p := ⟨w.heap.size + 1 + 1 + 1, 1, none⟩) (by first | omega | (simp [ext_size]; try omega))).trans (by (simp (maxDischargeDepth := 8) [go_sem, World.cell?_alloc_past, ltk2, ltk3, ltk4, ltk5, ltk6, ltk7, ltk8, ltk9, *]))
          have zl18_0 : w.heap.size < v18.heap.size := by omega
          have zl18_1 : w.heap.size + 1 < v18.heap.size := by omega
          have zl18_2 : w.heap.size + 1 + 1 < v18.heap.size := by omega
          have zl18_3 : w.heap.size + 1 + 1 + 1 < v18.heap.size := by omega
          have hB18 : Below w.heap.size w v18 := Below.trans (by (repeat (first | with_reducible exact hB17 | (with_reducible refine bext ?_ _ _) | (with_reducible refine below_drewN ?_ _) | (with_reducible refine Below.drew ?_) | (with_reducible refine bal ?_ _) | (with_reducible refine bset ?_ (by first | omega | (simp <;> omega)) _)))) (hb18.mono (by first | omega | (simp [ext_size]; try omega)))
          clear hb18
          clear cc17_0 cc17_1 cc17_2 cc17_3 cc17_4 cc17_5 cc17_6 cc17_7 zl17_0 zl17_1 zl17_2 zl17_3 zz17 hB17
          go_wp2_with fail
          with_reducible refine (AL _).mono ?_
          rintro e v19 ⟨rfl, hb19⟩
          have zz19 := hb19.size
          try simp [ext_size] at zz19
          have cc19_0 : v19.cell? ⟨w.heap.size, 0, none⟩ = some (.int .i64 a) := (hb19.cell (p := ⟨w.heap.size, 0, none⟩) (by first | omega | (simp [ext_size]; try omega))).trans (by (simp (maxDischargeDepth := 8) [go_sem, World.cell?_alloc_past, ltk2, ltk3, ltk4, ltk5, ltk6, ltk7, ltk8, ltk9, *]))
          have cc19_1 : v19.cell? ⟨w.heap.size, 1, none⟩ = some (.int .i64 b) := (hb19.cell (p := ⟨w.heap.size, 1, none⟩) (by first | omega | (simp [ext_size]; try omega))).trans (by (simp (maxDischargeDepth := 8) [go_sem, World.cell?_alloc_past, ltk2, ltk3, ltk4, ltk5, ltk6, ltk7, ltk8, ltk9, *]))
          have cc19_2 : v19.cell? ⟨w.heap.size + 1, 0, none⟩ = some (.int .i64 c) := (hb19.cell (p := ⟨w.heap.size + 1, 0, none⟩) (by first | omega | (simp [ext_size]; try omega))).trans (by (simp (maxDischargeDepth := 8) [go_sem, World.cell?_alloc_past, ltk2, ltk3, ltk4, ltk5, ltk6, ltk7, ltk8, ltk9, *]))
          have cc19_3 : v19.cell? ⟨w.heap.size + 1, 1, none⟩ = some (.int .i64 e) := (hb19.cell (p := ⟨w.heap.size + 1, 1, none⟩) (by first | omega | (simp [ext_size]; try omega))).trans (by (simp (maxDischargeDepth := 8) [go_sem, World.cell?_alloc_past, ltk2, ltk3, ltk4, ltk5, ltk6, ltk7, ltk8, ltk9, *]))
          have cc19_4 : v19.cell? ⟨w.heap.size + 1 + 1, 0, none⟩ = some (.int .i64 n) := (hb19.cell (p := ⟨w.heap.size + 1 + 1, 0, none⟩) (by first | omega | (simp [ext_size]; try omega))).trans (by (simp (maxDischargeDepth := 8) [go_sem, World.cell?_alloc_past, ltk2, ltk3, ltk4, ltk5, ltk6, ltk7, ltk8, ltk9, *]))
          have cc19_5 : v19.cell? ⟨w.heap.size + 1 + 1, 1, none⟩ = some (.int .i64 d) := (hb19.cell (p := ⟨w.heap.size + 1 + 1, 1, none⟩) (by first | omega | (simp [ext_size]; try omega))).trans (by (simp (maxDischargeDepth := 8) [go_sem, World.cell?_alloc_past, ltk2, ltk3, ltk4, ltk5, ltk6, ltk7, ltk8, ltk9, *]))
          have cc19_6 : v19.cell? ⟨w.heap.size + 1 + 1 + 1, 0, none⟩ = some (.int .i64 p) := (hb19.cell (p := ⟨w.heap.size + 1 + 1 + 1, 0, none⟩) (by first | omega | (simp [ext_size]; try omega))).trans (by (simp (maxDischargeDepth := 8) [go_sem, World.cell?_alloc_past, ltk2, ltk3, ltk4, ltk5, ltk6, ltk7, ltk8, ltk9, *]))
          have cc19_7 : v19.cell? ⟨w.heap.size + 1 + 1 + 1, 1, none⟩ = some (.int .i64 q) := (hb19.cell (p := ⟨w.heap.size + 1 + 1 + 1, 1, none⟩) (by first | omega | (simp [ext_size]; try omega))).trans (by (simp (maxDischargeDepth := 8) [go_sem, World.cell?_alloc_past, ltk2, ltk3, ltk4, ltk5, ltk6, ltk7, ltk8, ltk9, *]))
          have zl19_0 : w.heap.size < v19.heap.size := by omega
          have zl19_1 : w.heap.size + 1 < v19.heap.size := by omega
          have zl19_2 : w.heap.size + 1 + 1 < v19.heap.size := by omega
          have zl19_3 : w.heap.size + 1 + 1 + 1 < v19.heap.size := by omega
          have hB19 : Below w.heap.size w v19 := Below.trans (by (repeat (first | with_reducible exact hB18 | (with_reducible refine bext ?_ _ _) | (with_reducible refine below_drewN ?_ _) | (with_reducible refine Below.drew ?_) | (with_reducible refine bal ?_ _) | (with_reducible refine bset ?_ (by first | omega | (simp <;> omega)) _)))) (hb19.mono (by first | omega | (simp [ext_size]; try omega)))
          clear hb19
          clear cc18_0 cc18_1 cc18_2 cc18_3 cc18_4 cc18_5 cc18_6 cc18_7 zl18_0 zl18_1 zl18_2 zl18_3 zz18 hB18
          go_wp2
          go_ret
          exact ⟨rfl, by (repeat (first | with_reducible exact hB19 | (with_reducible refine bext ?_ _ _) | (with_reducible refine below_drewN ?_ _) | (with_reducible refine Below.drew ?_) | (with_reducible refine bal ?_ _) | (with_reducible refine bset ?_ (by first | omega | (simp <;> omega)) _)))⟩
      ·
        have hA' : inB a b n d = false := by simpa using hA
        rw [hA'] at A6
        clear IA IB IC hA hA' A7 A8 A9 B1 B2 B3 B4
        go_wp2_with fail
        with_reducible refine (A6 _).mono ?_
        rintro e v20 ⟨rfl, hb20⟩
        have zz20 := hb20.size
        try simp [ext_size] at zz20
        have cc20_0 : v20.cell? ⟨w.heap.size, 0, none⟩ = some (.int .i64 a) := (hb20.cell (p := ⟨w.heap.size, 0, none⟩) (by first | omega | (simp [ext_size]; try omega))).trans (by (simp (maxDischargeDepth := 8) [go_sem, World.cell?_alloc_past, ltk2, ltk3, ltk4, ltk5, ltk6, ltk7, ltk8, ltk9, *]))
        have cc20_1 : v20.cell? ⟨w.heap.size, 1, none⟩ = some (.int .i64 b) := (hb20.cell (p := ⟨w.heap.size, 1, none⟩) (by first | omega | (simp [ext_size]; try omega))).trans (by (simp (maxDischargeDepth := 8) [go_sem, World.cell?_alloc_past, ltk2, ltk3, ltk4, ltk5, ltk6, ltk7, ltk8, ltk9, *]))
        have cc20_2 : v20.cell? ⟨w.heap.size + 1, 0, none⟩ = some (.int .i64 c) := (hb20.cell (p := ⟨w.heap.size + 1, 0, none⟩) (by first | omega | (simp [ext_size]; try omega))).trans (by (simp (maxDischargeDepth := 8) [go_sem, World.cell?_alloc_past, ltk2, ltk3, ltk4, ltk5, ltk6, ltk7, ltk8, ltk9, *]))
        have cc20_3 : v20.cell? ⟨w.heap.size + 1, 1, none⟩ = some (.int .i64 e) := (hb20.cell (p := ⟨w.heap.size + 1, 1, none⟩) (by first | omega | (simp [ext_size]; try omega))).trans (by (simp (maxDischargeDepth := 8) [go_sem, World.cell?_alloc_past, ltk2, ltk3, ltk4, ltk5, ltk6, ltk7, ltk8, ltk9, *]))
        have cc20_4 : v20.cell? ⟨w.heap.size + 1 + 1, 0, none⟩ = some (.int .i64 n) := (hb20.cell (p := ⟨w.heap.size + 1 + 1, 0, none⟩) (by first | omega | (simp [ext_size]; try omega))).trans (by (simp (maxDischargeDepth := 8) [go_sem, World.cell?_alloc_past, ltk2, ltk3, ltk4, ltk5, ltk6, ltk7, ltk8, ltk9, *]))
        have cc20_5 : v20.cell? ⟨w.heap.size + 1 + 1, 1, none⟩ = some (.int .i64 d) := (hb20.cell (p := ⟨w.heap.size + 1 + 1, 1, none⟩) (by first | omega | (simp [ext_size]; try omega))).trans (by (simp (maxDischargeDepth := 8) [go_sem, World.cell?_alloc_past, ltk2, ltk3, ltk4, ltk5, ltk6, ltk7, ltk8, ltk9, *]))
        have cc20_6 : v20.cell? ⟨w.heap.size + 1 + 1 + 1, 0, none⟩ = some (.int .i64 p) := (hb20.cell (p := ⟨w.heap.size + 1 + 1 + 1, 0, none⟩) (by first | omega | (simp [ext_size]; try omega))).trans (by (simp (maxDischargeDepth := 8) [go_sem, World.cell?_alloc_past, ltk2, ltk3, ltk4, ltk5, ltk6, ltk7, ltk8, ltk9, *]))
        have cc20_7 : v20.cell? ⟨w.heap.size + 1 + 1 + 1, 1, none⟩ = some (.int .i64 q) := (hb20.cell (p := ⟨w.heap.size + 1 + 1 + 1, 1, none⟩) (by first | omega | (simp [ext_size]; try omega))).trans (by (simp (maxDischargeDepth := 8) [go_sem, World.cell?_alloc_past, ltk2, ltk3, ltk4, ltk5, ltk6, ltk7, ltk8, ltk9, *]))
        have zl20_0 : w.heap.size < v20.heap.size := by omega
        have zl20_1 : w.heap.size + 1 < v20.heap.size := by omega
        have zl20_2 : w.heap.size + 1 + 1 < v20.heap.size := by omega
        have zl20_3 : w.heap.size + 1 + 1 + 1 < v20.heap.size := by omega
        have hB20 : Below w.heap.size w v20 := Below.trans (by (repeat (first | with_reducible exact jB | (with_reducible refine bext ?_ _ _) | (with_reducible refine below_drewN ?_ _) | (with_reducible refine Below.drew ?_) | (with_reducible refine bal ?_ _) | (with_reducible refine bset ?_ (by first | omega | (simp <;> omega)) _)))) (hb20.mono (by first | omega | (simp [ext_size]; try omega)))
        clear hb20
        go_wp2_with fail
        with_reducible refine (AL _).mono ?_
        rintro e v21 ⟨rfl, hb21⟩
        have zz21 := hb21.size
        try simp [ext_size] at zz21
        have cc21_0 : v21.cell? ⟨w.heap.size, 0, none⟩ = some (.int .i64 a) := (hb21.cell (p := ⟨w.heap.size, 0, none⟩) (by first | omega | (simp [ext_size]; try omega))).trans (by (simp (maxDischargeDepth := 8) [go_sem, World.cell?_alloc_past, ltk2, ltk3, ltk4, ltk5, ltk6, ltk7, ltk8, ltk9, *]))
        have cc21_1 : v21.cell? ⟨w.heap.size, 1, none⟩ = some (.int .i64 b) := (hb21.cell (p := ⟨w.heap.size, 1, none⟩) (by first | omega | (simp [ext_size]; try omega))).trans (by (simp (maxDischargeDepth := 8) [go_sem, World.cell?_alloc_past, ltk2, ltk3, ltk4, ltk5, ltk6, ltk7, ltk8, ltk9, *]))
        have cc21_2 : v21.cell? ⟨w.heap.size + 1, 0, none⟩ = some (.int .i64 c) := (hb21.cell (p := ⟨w.heap.size + 1, 0, none⟩) (by first | omega | (simp [ext_size]; try omega))).trans (by (simp (maxDischargeDepth := 8) [go_sem, World.cell?_alloc_past, ltk2, ltk3, ltk4, ltk5, ltk6, ltk7, ltk8, ltk9, *]))
        have cc21_3 : v21.cell? ⟨w.heap.size + 1, 1, none⟩ = some (.int .i64 e) := (hb21.cell (p := ⟨w.heap.size + 1, 1, none⟩) (by first | omega | (simp [ext_size]; try omega))).trans (by (simp (maxDischargeDepth := 8) [go_sem, World.cell?_alloc_past, ltk2, ltk3, ltk4, ltk5, ltk6, ltk7, ltk8, ltk9, *]))
        have cc21_4 : v21.cell? ⟨w.heap.size + 1 + 1, 0, none⟩ = some (.int .i64 n) := (hb21.cell (p := ⟨w.heap.size + 1 + 1, 0, none⟩) (by first | omega | (simp [ext_size]; try omega))).trans (by (simp (maxDischargeDepth := 8) [go_sem, World.cell?_alloc_past, ltk2, ltk3, ltk4, ltk5, ltk6, ltk7, ltk8, ltk9, *]))
        have cc21_5 : v21.cell? ⟨w.heap.size + 1 + 1, 1, none⟩ = some (.int .i64 d) := (hb21.cell (p := ⟨w.heap.size + 1 + 1, 1, none⟩) (by first | omega | (simp [ext_size]; try omega))).trans (by (simp (maxDischargeDepth := 8) [go_sem, World.cell?_alloc_past, ltk2, ltk3, ltk4, ltk5, ltk6, ltk7, ltk8, ltk9, *]))
        have cc21_6 : v21.cell? ⟨w.heap.size + 1 + 1 + 1, 0, none⟩ = some (.int .i64 p) := (hb21.cell (p := ⟨w.heap.size + 1 + 1 + 1, 0, none⟩) (by first | omega | (simp [ext_size]; try omega))).trans (by (simp (maxDischargeDepth := 8) [go_sem, World.cell?_alloc_past, ltk2, ltk3, ltk4, ltk5, ltk6, ltk7, ltk8, ltk9, *]))
        have cc21_7 : v21.cell? ⟨w.heap.size + 1 + 1 + 1, 1, none⟩ = some (.int .i64 q) := (hb21.cell (p := ⟨w.heap.size + 1 + 1 + 1, 1, none⟩) (by first | omega | (simp [ext_size]; try omega))).trans (by (simp (maxDischargeDepth := 8) [go_sem, World.cell?_alloc_past, ltk2, ltk3, ltk4, ltk5, ltk6, ltk7, ltk8, ltk9, *]))
        have zl21_0 : w.heap.size < v21.heap.size := by omega
        have zl21_1 : w.heap.size + 1 < v21.heap.size := by omega
        have zl21_2 : w.heap.size + 1 + 1 < v21.heap.size := by omega
        have zl21_3 : w.heap.size + 1 + 1 + 1 < v21.heap.size := by omega
        have hB21 : Below w.heap.size w v21 := Below.trans (by (repeat (first | with_reducible exact hB20 | (with_reducible refine bext ?_ _ _) | (with_reducible refine below_drewN ?_ _) | (with_reducible refine Below.drew ?_) | (with_reducible refine bal ?_ _) | (with_reducible refine bset ?_ (by first | omega | (simp <;> omega)) _)))) (hb21.mono (by first | omega | (simp [ext_size]; try omega)))
        clear hb21
        clear cc20_0 cc20_1 cc20_2 cc20_3 cc20_4 cc20_5 cc20_6 cc20_7 zl20_0 zl20_1 zl20_2 zl20_3 zz20 hB20
        go_wp2
        go_ret
        exact ⟨rfl, by (repeat (first | with_reducible exact hB21 | (with_reducible refine bext ?_ _ _) | (with_reducible refine below_drewN ?_ _) | (with_reducible refine Below.drew ?_) | (with_reducible refine bal ?_ _) | (with_reducible refine bset ?_ (by first | omega | (simp <;> omega)) _)))⟩
  ·
    clear l1 l2
    have dAl := dAl; have dSt := dSt; have xC := ext_cell; have xF := ext_frozen; have xS := ext_set; have xN := ext_drewN; have xD := ext_drew; have xL := ext_lt; have xE := ext_ne; have xG := ext_nr; have xX := ext_ext; have xL1 := ext_lt1; have xL2 := ext_lt2; have xL3 := ext_lt3; have xM0 := ext_le0; have xM1 := ext_le1; have xM2 := ext_le2
    go_enter Try.func8, Try.ntmps8
    go_wp2_with fail
    with_reducible refine (A1 _).mono ?_
    rintro e v22 ⟨rfl, hb22⟩
    have zz22 := hb22.size
    try simp [ext_size] at zz22
    have cc22_0 : v22.cell? ⟨w.heap.size, 0, none⟩ = some (.int .i64 a) := (hb22.cell (p := ⟨w.heap.size, 0, none⟩) (by first | omega | (simp [ext_size]; try omega))).trans (by (simp (maxDischargeDepth := 8) [go_sem, World.cell?_alloc_past, ltk2, ltk3, ltk4, ltk5, ltk6, ltk7, ltk8, ltk9, *]))
    have cc22_1 : v22.cell? ⟨w.heap.size, 1, none⟩ = some (.int .i64 b) := (hb22.cell (p := ⟨w.heap.size, 1, none⟩) (by first | omega | (simp [ext_size]; try omega))).trans (by (simp (maxDischargeDepth := 8) [go_sem, World.cell?_alloc_past, ltk2, ltk3, ltk4, ltk5, ltk6, ltk7, ltk8, ltk9, *]))
    have cc22_2 : v22.cell? ⟨w.heap.size + 1, 0, none⟩ = some (.int .i64 c) := (hb22.cell (p := ⟨w.heap.size + 1, 0, none⟩) (by first | omega | (simp [ext_size]; try omega))).trans (by (simp (maxDischargeDepth := 8) [go_sem, World.cell?_alloc_past, ltk2, ltk3, ltk4, ltk5, ltk6, ltk7, ltk8, ltk9, *]))
    have cc22_3 : v22.cell? ⟨w.heap.size + 1, 1, none⟩ = some (.int .i64 e) := (hb22.cell (p := ⟨w.heap.size + 1, 1, none⟩) (by first | omega | (simp [ext_size]; try omega))).trans (by (simp (maxDischargeDepth := 8) [go_sem, World.cell?_alloc_past, ltk2, ltk3, ltk4, ltk5, ltk6, ltk7, ltk8, ltk9, *]))
    have cc22_4 : v22.cell? ⟨w.heap.size + 1 + 1, 0, none⟩ = some (.int .i64 n) := (hb22.cell (p := ⟨w.heap.size + 1 + 1, 0, none⟩) (by first | omega | (simp [ext_size]; try omega))).trans (by (simp (maxDischargeDepth := 8) [go_sem, World.cell?_alloc_past, ltk2, ltk3, ltk4, ltk5, ltk6, ltk7, ltk8, ltk9, *]))
    have cc22_5 : v22.cell? ⟨w.heap.size + 1 + 1, 1, none⟩ = some (.int .i64 d) := (hb22.cell (p := ⟨w.heap.size + 1 + 1, 1, none⟩) (by first | omega | (simp [ext_size]; try omega))).trans (by (simp (maxDischargeDepth := 8) [go_sem, World.cell?_alloc_past, ltk2, ltk3, ltk4, ltk5, ltk6, ltk7, ltk8, ltk9, *]))
    have cc22_6 : v22.cell? ⟨w.heap.size + 1 + 1 + 1, 0, none⟩ = some (.int .i64 p) := (hb22.cell (p := ⟨w.heap.size + 1 + 1 + 1, 0, none⟩) (by first | omega | (simp [ext_size]; try omega))).trans (by (simp (maxDischargeDepth := 8) [go_sem, World.cell?_alloc_past, ltk2, ltk3, ltk4, ltk5, ltk6, ltk7, ltk8, ltk9, *]))
    have cc22_7 : v22.cell? ⟨w.heap.size + 1 + 1 + 1, 1, none⟩ = some (.int .i64 q) := (hb22.cell (p := ⟨w.heap.size + 1 + 1 + 1, 1, none⟩) (by first | omega | (simp [ext_size]; try omega))).trans (by (simp (maxDischargeDepth := 8) [go_sem, World.cell?_alloc_past, ltk2, ltk3, ltk4, ltk5, ltk6, ltk7, ltk8, ltk9, *]))
    have zl22_0 : w.heap.size < v22.heap.size := by omega
    have zl22_1 : w.heap.size + 1 < v22.heap.size := by omega
    have zl22_2 : w.heap.size + 1 + 1 < v22.heap.size := by omega
    have zl22_3 : w.heap.size + 1 + 1 + 1 < v22.heap.size := by omega
    have hB22 : Below w.heap.size w v22 := Below.trans (by (repeat (first | with_reducible exact b0 _ | (with_reducible refine bext ?_ _ _) | (with_reducible refine below_drewN ?_ _) | (with_reducible refine Below.drew ?_) | (with_reducible refine bal ?_ _)))) (hb22.mono (by first | omega | (simp [ext_size]; try omega)))
    clear hb22
    go_wp2_with fail
    with_reducible refine (A2 _).mono ?_
    rintro e v23 ⟨rfl, hb23⟩
    have zz23 := hb23.size
    try simp [ext_size] at zz23
    have cc23_0 : v23.cell? ⟨w.heap.size, 0, none⟩ = some (.int .i64 a) := (hb23.cell (p := ⟨w.heap.size, 0, none⟩) (by first | omega | (simp [ext_size]; try omega))).trans (by (simp (maxDischargeDepth := 8) [go_sem, World.cell?_alloc_past, ltk2, ltk3, ltk4, ltk5, ltk6, ltk7, ltk8, ltk9, *]))
    have cc23_1 : v23.cell? ⟨w.heap.size, 1, none⟩ = some (.int .i64 b) := (hb23.cell (p := ⟨w.heap.size, 1, none⟩) (by first | omega | (simp [ext_size]; try omega))).trans (by (simp (maxDischargeDepth := 8) [go_sem, World.cell?_alloc_past, ltk2, ltk3, ltk4, ltk5, ltk6, ltk7, ltk8, ltk9, *]))
    have cc23_2 : v23.cell? ⟨w.heap.size + 1, 0, none⟩ = some (.int .i64 c) := (hb23.cell (p := ⟨w.heap.size + 1, 0, none⟩) (by first | omega | (simp [ext_size]; try omega))).trans (by (simp (maxDischargeDepth := 8) [go_sem, World.cell?_alloc_past, ltk2, ltk3, ltk4, ltk5, ltk6, ltk7, ltk8, ltk9, *]))
    have cc23_3 : v23.cell? ⟨w.heap.size + 1, 1, none⟩ = some (.int .i64 e) := (hb23.cell (p := ⟨w.heap.size + 1, 1, none⟩) (by first | omega | (simp [ext_size]; try omega))).trans (by (simp (maxDischargeDepth := 8) [go_sem, World.cell?_alloc_past, ltk2, ltk3, ltk4, ltk5, ltk6, ltk7, ltk8, ltk9, *]))
    have cc23_4 : v23.cell? ⟨w.heap.size + 1 + 1, 0, none⟩ = some (.int .i64 n) := (hb23.cell (p := ⟨w.heap.size + 1 + 1, 0, none⟩) (by first | omega | (simp [ext_size]; try omega))).trans (by (simp (maxDischargeDepth := 8) [go_sem, World.cell?_alloc_past, ltk2, ltk3, ltk4, ltk5, ltk6, ltk7, ltk8, ltk9, *]))
    have cc23_5 : v23.cell? ⟨w.heap.size + 1 + 1, 1, none⟩ = some (.int .i64 d) := (hb23.cell (p := ⟨w.heap.size + 1 + 1, 1, none⟩) (by first | omega | (simp [ext_size]; try omega))).trans (by (simp (maxDischargeDepth := 8) [go_sem, World.cell?_alloc_past, ltk2, ltk3, ltk4, ltk5, ltk6, ltk7, ltk8, ltk9, *]))
    have cc23_6 : v23.cell? ⟨w.heap.size + 1 + 1 + 1, 0, none⟩ = some (.int .i64 p) := (hb23.cell (p := ⟨w.heap.size + 1 + 1 + 1, 0, none⟩) (by first | omega | (simp [ext_size]; try omega))).trans (by (simp (maxDischargeDepth := 8) [go_sem, World.cell?_alloc_past, ltk2, ltk3, ltk4, ltk5, ltk6, ltk7, ltk8, ltk9, *]))
    have cc23_7 : v23.cell? ⟨w.heap.size + 1 + 1 + 1, 1, none⟩ = some (.int .i64 q) := (hb23.cell (p := ⟨w.heap.size + 1 + 1 + 1, 1, none⟩) (by first | omega | (simp [ext_size]; try omega))).trans (by (simp (maxDischargeDepth := 8) [go_sem, World.cell?_alloc_past, ltk2, ltk3, ltk4, ltk5, ltk6, ltk7, ltk8, ltk9, *]))
    have zl23_0 : w.heap.size < v23.heap.size := by omega
    have zl23_1 : w.heap.size + 1 < v23.heap.size := by omega
    have zl23_2 : w.heap.size + 1 + 1 < v23.heap.size := by omega
    have zl23_3 : w.heap.size + 1 + 1 + 1 < v23.heap.size := by omega
    have hB23 : Below w.heap.size w v23 := Below.trans (by (repeat (first | with_reducible exact hB22 | (with_reducible refine bext ?_ _ _) | (with_reducible refine below_drewN ?_ _) | (with_reducible refine Below.drew ?_) | (with_reducible refine bal ?_ _) | (with_reducible refine bset ?_ (by first | omega | (simp <;> omega)) _)))) (hb23.mono (by first | omega | (simp [ext_size]; try omega)))
    clear hb23
    clear cc22_0 cc22_1 cc22_2 cc22_3 cc22_4 cc22_5 cc22_6 cc22_7 zl22_0 zl22_1 zl22_2 zl22_3 zz22 hB22
    go_wp2_with fail
    with_reducible refine (A3 _).mono ?_
    rintro e v24 ⟨rfl, hb24⟩
    have zz24 := hb24.size
    try simp [ext_size] at zz24
    have cc24_0 : v24.cell? ⟨w.heap.size, 0, none⟩ = some (.int .i64 a) := (hb24.cell (p := ⟨w.heap.size, 0, none⟩) (by first | omega | (simp [ext_size]; try omega))).trans (by (simp (maxDischargeDepth := 8) [go_sem, World.cell?_alloc_past, ltk2, ltk3, ltk4, ltk5, ltk6, ltk7, ltk8, ltk9, *]))
    have cc24_1 : v24.cell? ⟨w.heap.size, 1, none⟩ = some (.int .i64 b) := (hb24.cell (p := ⟨w.heap.size, 1, none⟩) (by first | omega | (simp [ext_size]; try omega))).trans (by (simp (maxDischargeDepth := 8) [go_sem, World.cell?_alloc_past, ltk2, ltk3, ltk4, ltk5, ltk6, ltk7, ltk8, ltk9, *]))
    have cc24_2 : v24.cell? ⟨w.heap.size + 1, 0, none⟩ = some (.int .i64 c) := (hb24.cell (p := ⟨w.heap.size + 1, 0, none⟩) (by first | omega | (simp [ext_size]; try omega))).trans (by (simp (maxDischargeDepth := 8) [go_sem, World.cell?_alloc_past, ltk2, ltk3, ltk4, ltk5, ltk6, ltk7, ltk8, ltk9, *]))
    have cc24_3 : v24.cell? ⟨w.heap.size + 1, 1, none⟩ = some (.int .i64 e) := (hb24.cell (p := ⟨w.heap.size + 1, 1, none⟩) (by first | omega | (simp [ext_size]; try omega))).trans (by (simp (maxDischargeDepth := 8) [go_sem, World.cell?_alloc_past, ltk2, ltk3, ltk4, ltk5, ltk6, ltk7, ltk8, ltk9, *]))
    have cc24_4 : v24.cell? ⟨w.heap.size + 1 + 1, 0, none⟩ = some (.int .i64 n) := (hb24.cell (p := ⟨w.heap.size + 1 + 1, 0, none⟩) (by first | omega | (simp [ext_size]; try omega))).trans (by (simp (maxDischargeDepth := 8) [go_sem, World.cell?_alloc_past, ltk2, ltk3, ltk4, ltk5, ltk6, ltk7, ltk8, ltk9, *]))
    have cc24_5 : v24.cell? ⟨w.heap.size + 1 + 1, 1, none⟩ = some (.int .i64 d) := (hb24.cell (p := ⟨w.heap.size + 1 + 1, 1, none⟩) (by first | omega | (simp [ext_size]; try omega))).trans (by (simp (maxDischargeDepth := 8) [go_sem, World.cell?_alloc_past, ltk2, ltk3, ltk4, ltk5, ltk6, ltk7, ltk8, ltk9, *]))
    have cc24_6 : v24.cell? ⟨w.heap.size + 1 + 1 + 1, 0, none⟩ = some (.int .i64 p) := (hb24.cell (p := ⟨w.heap.size + 1 + 1 + 1, 0, none⟩) (by first | omega | (simp [ext_size]; try omega))).trans (by (simp (maxDischargeDepth := 8) [go_sem, World.cell?_alloc_past, ltk2, ltk3, ltk4, ltk5, ltk6, ltk7, ltk8, ltk9, *]))
    have cc24_7 : v24.cell? ⟨w.heap.size + 1 + 1 + 1, 1, none⟩ = some (.int .i64 q) := (hb24.cell (p := ⟨w.heap.size + 1 + 1 + 1, 1, none⟩) (by first | omega | (simp [ext_size]; try omega))).trans (by (simp (maxDischargeDepth := 8) [go_sem, World.cell?_alloc_past, ltk2, ltk3, ltk4, ltk5, ltk6, ltk7, ltk8, ltk9, *]))
    have zl24_0 : w.heap.size < v24.heap.size := by omega
    have zl24_1 : w.heap.size + 1 < v24.heap.size := by omega
    have zl24_2 : w.heap.size + 1 + 1 < v24.heap.size := by omega
    have zl24_3 : w.heap.size + 1 + 1 + 1 < v24.heap.size := by omega
    have hB24 : Below w.heap.size w v24 := Below.trans (by (repeat (first | with_reducible exact hB23 | (with_reducible refine bext ?_ _ _) | (with_reducible refine below_drewN ?_ _) | (with_reducible refine Below.drew ?_) | (with_reducible refine bal ?_ _) | (with_reducible refine bset ?_ (by first | omega | (simp <;> omega)) _)))) (hb24.mono (by first | omega | (simp [ext_size]; try omega)))
    clear hb24
    clear cc23_0 cc23_1 cc23_2 cc23_3 cc23_4 cc23_5 cc23_6 cc23_7 zl23_0 zl23_1 zl23_2 zl23_3 zz23 hB23
    go_wp2_with fail
    with_reducible refine (A4 _).mono ?_
    rintro e v25 ⟨rfl, hb25⟩
    have zz25 := hb25.size
    try simp [ext_size] at zz25
    have cc25_0 : v25.cell? ⟨w.heap.size, 0, none⟩ = some (.int .i64 a) := (hb25.cell (p := ⟨w.heap.size, 0, none⟩) (by first | omega | (simp [ext_size]; try omega))).trans (by (simp (maxDischargeDepth := 8) [go_sem, World.cell?_alloc_past, ltk2, ltk3, ltk4, ltk5, ltk6, ltk7, ltk8, ltk9, *]))
    have cc25_1 : v25.cell? ⟨w.heap.size, 1, none⟩ = some (.int .i64 b) := (hb25.cell (p := ⟨w.heap.size, 1, none⟩) (by first | omega | (simp [ext_size]; try omega))).trans (by (simp (maxDischargeDepth := 8) [go_sem, World.cell?_alloc_past, ltk2, ltk3, ltk4, ltk5, ltk6, ltk7, ltk8, ltk9, *]))
    have cc25_2 : v25.cell? ⟨w.heap.size + 1, 0, none⟩ = some (.int .i64 c) := (hb25.cell (p := ⟨w.heap.size + 1, 0, none⟩) (by first | omega | (simp [ext_size]; try omega))).trans (by (simp (maxDischargeDepth := 8) [go_sem, World.cell?_alloc_past, ltk2, ltk3, ltk4, ltk5, ltk6, ltk7, ltk8, ltk9, *]))
    have cc25_3 : v25.cell? ⟨w.heap.size + 1, 1, none⟩ = some (.int .i64 e) := (hb25.cell (p := ⟨w.heap.size + 1, 1, none⟩) (by first | omega | (simp [ext_size]; try omega))).trans (by (simp (maxDischargeDepth := 8) [go_sem, World.cell?_alloc_past, ltk2, ltk3, ltk4, ltk5, ltk6, ltk7, ltk8, ltk9, *]))
    have cc25_4 : v25.cell? ⟨w.heap.size + 1 + 1, 0, none⟩ = some (.int .i64 n) := (hb25.cell (p := ⟨w.heap.size + 1 + 1, 0, none⟩) (by first | omega | (simp [ext_size]; try omega))).trans (by (simp (maxDischargeDepth := 8) [go_sem, World.cell?_alloc_past, ltk2, ltk3, ltk4, ltk5, ltk6, ltk7, ltk8, ltk9, *]))
    have cc25_5 : v25.cell? ⟨w.heap.size + 1 + 1, 1, none⟩ = some (.int .i64 d) := (hb25.cell (p := ⟨w.heap.size + 1 + 1, 1, none⟩) (by first | omega | (simp [ext_size]; try omega))).trans (by (simp (maxDischargeDepth := 8) [go_sem, World.cell?_alloc_past, ltk2, ltk3, ltk4, ltk5, ltk6, ltk7, ltk8, ltk9, *]))
    have cc25_6 : v25.cell? ⟨w.heap.size + 1 + 1 + 1, 0, none⟩ = some (.int .i64 p) := (hb25.cell (p := ⟨w.heap.size + 1 + 1 + 1, 0, none⟩) (by first | omega | (simp [ext_size]; try omega))).trans (by (simp (maxDischargeDepth := 8) [go_sem, World.cell?_alloc_past, ltk2, ltk3, ltk4, ltk5, ltk6, ltk7, ltk8, ltk9, *]))
    have cc25_7 : v25.cell? ⟨w.heap.size + 1 + 1 + 1, 1, none⟩ = some (.int .i64 q) := (hb25.cell (p := ⟨w.heap.size + 1 + 1 + 1, 1, none⟩) (by first | omega | (simp [ext_size]; try omega))).trans (by (simp (maxDischargeDepth := 8) [go_sem, World.cell?_alloc_past, ltk2, ltk3, ltk4, ltk5, ltk6, ltk7, ltk8, ltk9, *]))
    have zl25_0 : w.heap.size < v25.heap.size := by omega
    have zl25_1 : w.heap.size + 1 < v25.heap.size := by omega
    have zl25_2 : w.heap.size + 1 + 1 < v25.heap.size := by omega
    have zl25_3 : w.heap.size + 1 + 1 + 1 < v25.heap.size := by omega
    have hB25 : Below w.heap.size w v25 := Below.trans (by (repeat (first | with_reducible exact hB24 | (with_reducible refine bext ?_ _ _) | (with_reducible refine below_drewN ?_ _) | (with_reducible refine Below.drew ?_) | (with_reducible refine bal ?_ _) | (with_reducible refine bset ?_ (by first | omega | (simp <;> omega)) _)))) (hb25.mono (by first | omega | (simp [ext_size]; try omega)))
    clear hb25
    clear cc24_0 cc24_1 cc24_2 cc24_3 cc24_4 cc24_5 cc24_6 cc24_7 zl24_0 zl24_1 zl24_2 zl24_3 zz24 hB24
    clear A1 A2 A3 A4
    go_upto_if 46 with fail
    go_cut [] (fun wx => wx.cell? ⟨w.heap.size, 0, none⟩ = some (.int .i64 a) ∧ wx.cell? ⟨w.heap.size, 1, none⟩ = some (.int .i64 b) ∧ wx.cell? ⟨w.heap.size + 1, 0, none⟩ = some (.int .i64 c) ∧ wx.cell? ⟨w.heap.size + 1, 1, none⟩ = some (.int .i64 e) ∧ wx.cell? ⟨w.heap.size + 1 + 1, 0, none⟩ = some (.int .i64 n) ∧ wx.cell? ⟨w.heap.size + 1 + 1, 1, none⟩ = some (.int .i64 d) ∧ wx.cell? ⟨w.heap.size + 1 + 1 + 1, 0, none⟩ = some (.int .i64 p) ∧ wx.cell? ⟨w.heap.size + 1 + 1 + 1, 1, none⟩ = some (.int .i64 q) ∧ w.heap.size + 1 + 1 + 1 < wx.heap.size ∧ Below w.heap.size w wx)
    case first =>
      clear AL A6 A7 A8 A9 B1 B2 B3 B4 IA IB IC
      go_wp2_with fail
      all_goals go_meet
      all_goals refine ⟨by (simp (maxDischargeDepth := 8) [go_sem, World.cell?_alloc_past, ltk2, ltk3, ltk4, ltk5, ltk6, ltk7, ltk8, ltk9, *]), by (simp (maxDischargeDepth := 8) [go_sem, World.cell?_alloc_past, ltk2, ltk3, ltk4, ltk5, ltk6, ltk7, ltk8, ltk9, *]), by (simp (maxDischargeDepth := 8) [go_sem, World.cell?_alloc_past, ltk2, ltk3, ltk4, ltk5, ltk6, ltk7, ltk8, ltk9, *]), by (simp (maxDischargeDepth := 8) [go_sem, World.cell?_alloc_past, ltk2, ltk3, ltk4, ltk5, ltk6, ltk7, ltk8, ltk9, *]), by (simp (maxDischargeDepth := 8) [go_sem, World.cell?_alloc_past, ltk2, ltk3, ltk4, ltk5, ltk6, ltk7, ltk8, ltk9, *]), by (simp (maxDischargeDepth := 8) [go_sem, World.cell?_alloc_past, ltk2, ltk3, ltk4, ltk5, ltk6, ltk7, ltk8, ltk9, *]), by (simp (maxDischargeDepth := 8) [go_sem, World.cell?_alloc_past, ltk2, ltk3, ltk4, ltk5, ltk6, ltk7, ltk8, ltk9, *]), by (simp (maxDischargeDepth := 8) [go_sem, World.cell?_alloc_past, ltk2, ltk3, ltk4, ltk5, ltk6, ltk7, ltk8, ltk9, *]), by first | omega | (simp [ext_size]; try omega), by (repeat (first | with_reducible exact hB25 | (with_reducible refine bext ?_ _ _) | (with_reducible refine below_drewN ?_ _) | (with_reducible refine Below.drew ?_) | (with_reducible refine bal ?_ _) | (with_reducible refine bset ?_ (by first | omega | (simp <;> omega)) _)))⟩
    case rest =>
      obtain ⟨j1, j2, j3, j4, j5, j6, j7, j8, jz, jB⟩ := hcut
      have jz2 := Nat.lt_of_succ_lt jz
      have jz1 := Nat.lt_of_succ_lt jz2
      have jz0 := Nat.lt_of_succ_lt jz1
      by_cases hA : inB a b n d = true
      ·
        by_cases hC : inB c e p q = true
        ·
          rw [hA] at A6
          rw [hC] at A7
          have I1 := Lib.hid (IA.out hA hC)
          have I2 := Lib.hid (IB.out hA hC)
          have I3 := Lib.hid (IC.out hA hC)
          clear IA IB IC hA hC
          go_wp2_with fail
          with_reducible refine (A6 _).mono ?_
          rintro e v26 ⟨rfl, hb26⟩
          have zz26 := hb26.size
          try simp [ext_size] at zz26
          have cc26_0 : v26.cell? ⟨w.heap.size, 0, none⟩ = some (.int .i64 a) := (hb26.cell (p := ⟨w.heap.size, 0, none⟩) (by first | omega | (simp [ext_size]; try omega))).trans (by (simp (maxDischargeDepth := 8) [go_sem, World.cell?_alloc_past, ltk2, ltk3, ltk4, ltk5, ltk6, ltk7, ltk8, ltk9, *]))
          have cc26_1 : v26.cell? ⟨w.heap.size, 1, none⟩ = some (.int .i64 b) := (hb26.cell (p := ⟨w.heap.size, 1, none⟩) (by first | omega | (simp [ext_size]; try omega))).trans (by (simp (maxDischargeDepth := 8) [go_sem, World.cell?_alloc_past, ltk2, ltk3, ltk4, ltk5, ltk6, ltk7, ltk8, ltk9, *]))
          have cc26_2 : v26.cell? ⟨w.heap.size + 1, 0, none⟩ = some (.int .i64 c) := (hb26.cell (p := ⟨w.heap.size + 1, 0, none⟩) (by first | omega | (simp [ext_size]; try omega))).trans (by (simp (maxDischargeDepth := 8) [go_sem, World.cell?_alloc_past, ltk2, ltk3, ltk4, ltk5, ltk6, ltk7, ltk8, ltk9, *]))
          have cc26_3 : v26.cell? ⟨w.heap.size + 1, 1, none⟩ = some (.int .i64 e) := (hb26.cell (p := ⟨w.heap.size + 1, 1, none⟩) (by first | omega | (simp [ext_size]; try omega))).trans (by (simp (maxDischargeDepth := 8) [go_sem, World.cell?_alloc_past, ltk2, ltk3, ltk4, ltk5, ltk6, ltk7, ltk8, ltk9, *]))
          have cc26_4 : v26.cell? ⟨w.heap.size + 1 + 1, 0, none⟩ = some (.int .i64 n) := (hb26.cell (p := ⟨w.heap.size + 1 + 1, 0, none⟩) (by first | omega | (simp [ext_size]; try omega))).trans (by (simp (maxDischargeDepth := 8) [go_sem, World.cell?_alloc_past, ltk2, ltk3, ltk4, ltk5, ltk6, ltk7, ltk8, ltk9, *]))
          have cc26_5 : v26.cell? ⟨w.heap.size + 1 + 1, 1, none⟩ = some (.int .i64 d) := (hb26.cell (p := ⟨w.heap.size + 1 + 1, 1, none⟩) (by first | omega | (simp [ext_size]; try omega))).trans (by (simp (maxDischargeDepth := 8) [go_sem, World.cell?_alloc_past, ltk2, ltk3, ltk4, ltk5, ltk6, ltk7, ltk8, ltk9, *]))
          have cc26_6 : v26.cell? ⟨w.heap.size + 1 + 1 + 1, 0, none⟩ = some (.int .i64 p) := (hb26.cell (p := ⟨w.heap.size + 1 + 1 + 1, 0, none⟩) (by first | omega | (simp [ext_size]; try omega))).trans (by (simp (maxDischargeDepth := 8) [go_sem, World.cell?_alloc_past, ltk2, ltk3, ltk4, ltk5, ltk6, ltk7, ltk8, ltk9, *]))
          have cc26_7 : v26.cell? ⟨w.heap.size + 1 + 1 + 1, 1, none⟩ = some (.int .i64 q) := (hb26.cell (p := ⟨w.heap.size + 1 + 1 + 1, 1, none⟩) (by first | omega | (simp [ext_size]; try omega))).trans (by (simp (maxDischargeDepth := 8) [go_sem, World.cell?_alloc_past, ltk2, ltk3, ltk4, ltk5, ltk6, ltk7, ltk8, ltk9, *]))
          have zl26_0 : w.heap.size < v26.heap.size := by omega
          have zl26_1 : w.heap.size + 1 < v26.heap.size := by omega
          have zl26_2 : w.heap.size + 1 + 1 < v26.heap.size := by omega
          have zl26_3 : w.heap.size + 1 + 1 + 1 < v26.heap.size := by omega
          have hB26 : Below w.heap.size w v26 := Below.trans (by (repeat (first | with_reducible exact jB | (with_reducible refine bext ?_ _ _) | (with_reducible refine below_drewN ?_ _) | (with_reducible refine Below.drew ?_) | (with_reducible refine bal ?_ _) | (with_reducible refine bset ?_ (by first | omega | (simp <;> omega)) _)))) (hb26.mono (by first | omega | (simp [ext_size]; try omega)))
          clear hb26
          go_wp2_with fail
          with_reducible refine (A7 _).mono ?_
          rintro e v27 ⟨rfl, hb27⟩
          have zz27 := hb27.size
          try simp [ext_size] at zz27
          have cc27_0 : v27.cell? ⟨w.heap.size, 0, none⟩ = some (.int .i64 a) := (hb27.cell (p := ⟨w.heap.size, 0, none⟩) (by first | omega | (simp [ext_size]; try omega))).trans (by (simp (maxDischargeDepth := 8) [go_sem, World.cell?_alloc_past, ltk2, ltk3, ltk4, ltk5, ltk6, ltk7, ltk8, ltk9, *]))
          have cc27_1 : v27.cell? ⟨w.heap.size, 1, none⟩ = some (.int .i64 b) := (hb27.cell (p := ⟨w.heap.size, 1, none⟩) (by first | omega | (simp [ext_size]; try omega))).trans (by (simp (maxDischargeDepth := 8) [go_sem, World.cell?_alloc_past, ltk2, ltk3, ltk4, ltk5, ltk6, ltk7, ltk8, ltk9, *]))
          have cc27_2 : v27.cell? ⟨w.heap.size + 1, 0, none⟩ = some (.int .i64 c) := (hb27.cell (p := ⟨w.heap.size + 1, 0, none⟩) (by first | omega | (simp [ext_size]; try omega))).trans (by (simp (maxDischargeDepth := 8) [go_sem, World.cell?_alloc_past, ltk2, ltk3, ltk4, ltk5, ltk6, ltk7, ltk8, ltk9, *]))
          have cc27_3 : v27.cell? ⟨w.heap.size + 1, 1, none⟩ = some (.int .i64 e) := (hb27.cell (p := ⟨w.heap.size + 1, 1, none⟩) (by first | omega | (simp [ext_size]; try omega))).trans (by (simp (maxDischargeDepth := 8) [go_sem, World.cell?_alloc_past, ltk2, ltk3, ltk4, ltk5, ltk6, ltk7, ltk8, ltk9, *]))
          have cc27_4 : v27.cell? ⟨w.heap.size + 1 + 1, 0, none⟩ = some (.int .i64 n) := (hb27.cell (p := ⟨w.heap.size + 1 + 1, 0, none⟩) (by first | omega | (simp [ext_size]; try omega))).trans (by (simp (maxDischargeDepth := 8) [go_sem, World.cell?_alloc_past, ltk2, ltk3, ltk4, ltk5, ltk6, ltk7, ltk8, ltk9, *]))
          have cc27_5 : v27.cell? ⟨w.heap.size + 1 + 1, 1, none⟩ = some (.int .i64 d) := (hb27.cell (p := ⟨w.heap.size + 1 + 1, 1, none⟩) (by first | omega | (simp [ext_size]; try omega))).trans (by (simp (maxDischargeDepth := 8) [go_sem, World.cell?_alloc_past, ltk2, ltk3, ltk4, ltk5, ltk6, ltk7, ltk8, ltk9, *]))
          have cc27_6 : v27.cell? ⟨w.heap.size + 1 + 1 + 1, 0, none⟩ = some (.int .i64 p) := (hb27.cell (p := ⟨w.heap.size + 1 + 1 + 1, 0, none⟩) (by first | omega | (simp [ext_size]; try omega))).trans (by (simp (maxDischargeDepth := 8) [go_sem, World.cell?_alloc_past, ltk2, ltk3, ltk4, ltk5, ltk6, ltk7, ltk8, ltk9, *]))
          have cc27_7 : v27.cell? ⟨w.heap.size + 1 + 1 + 1, 1, none⟩ = some (.int .i64 q) := (hb27.cell (p := ⟨w.heap.size + 1 + 1 + 1, 1, none⟩) (by first | omega | (simp [ext_size]; try omega))).trans (by (simp (maxDischargeDepth := 8) [go_sem, World.cell?_alloc_past, ltk2, ltk3, ltk4, ltk5, ltk6, ltk7, ltk8, ltk9, *]))
          have zl27_0 : w.heap.size < v27.heap.size := by omega
          have zl27_1 : w.heap.size + 1 < v27.heap.size := by omega
          have zl27_2 : w.heap.size + 1 + 1 < v27.heap.size := by omega
          have zl27_3 : w.heap.size + 1 + 1 + 1 < v27.heap.size := by omega
          have hB27 : Below w.heap.size w v27 := Below.trans (by (repeat (first | with_reducible exact hB26 | (with_reducible refine bext ?_ _ _) | (with_reducible refine below_drewN ?_ _) | (with_reducible refine Below.drew ?_) | (with_reducible refine bal ?_ _) | (with_reducible refine bset ?_ (by first | omega | (simp <;> omega)) _)))) (hb27.mono (by first | omega | (simp [ext_size]; try omega)))
          clear hb27
          clear cc26_0 cc26_1 cc26_2 cc26_3 cc26_4 cc26_5 cc26_6 cc26_7 zl26_0 zl26_1 zl26_2 zl26_3 zz26 hB26
          go_wp2_with fail
          with_reducible refine (A8 _).mono ?_
          rintro e v28 ⟨rfl, hb28⟩
          have zz28 := hb28.size
          try simp [ext_size] at zz28
          have cc28_0 : v28.cell? ⟨w.heap.size, 0, none⟩ = some (.int .i64 a) := (hb28.cell (p := ⟨w.heap.size, 0, none⟩) (by first | omega | (simp [ext_size]; try omega))).trans (by (simp (maxDischargeDepth := 8) [go_sem, World.cell?_alloc_past, ltk2, ltk3, ltk4, ltk5, ltk6, ltk7, ltk8, ltk9, *]))
          have cc28_1 : v28.cell? ⟨w.heap.size, 1, none⟩ = some (.int .i64 b) := (hb28.cell (p := ⟨w.heap.size, 1, none⟩) (by first | omega | (simp [ext_size]; try omega))).trans (by (simp (maxDischargeDepth := 8) [go_sem, World.cell?_alloc_past, ltk2, ltk3, ltk4, ltk5, ltk6, ltk7, ltk8, ltk9, *]))
          have cc28_2 : v28.cell? ⟨w.heap.size + 1, 0, none⟩ = some (.int .i64 c) := (hb28.cell (p := ⟨w.heap.size + 1, 0, none⟩) (by first | omega | (simp [ext_size]; try omega))).trans (by (simp (maxDischargeDepth := 8) [go_sem, World.cell?_alloc_past, ltk2, ltk3, ltk4, ltk5, ltk6, ltk7, ltk8, ltk9, *]))
          have cc28_3 : v28.cell? ⟨w.heap.size + 1, 1, none⟩ = some (.int .i64 e) := (hb28.cell (p := ⟨w.heap.size + 1, 1, none⟩) (by first | omega | (simp [ext_size]; try omega))).trans (by (simp (maxDischargeDepth := 8) [go_sem, World.cell?_alloc_past, ltk2, ltk3, ltk4, ltk5, ltk6, ltk7, ltk8, ltk9, *]))
          have cc28_4 : v28.cell? ⟨w.heap.size + 1 + 1, 0, none⟩ = some (.int .i64 n) := (hb28.cell (p := ⟨w.heap.size + 1 + 1, 0, none⟩) (by first | omega | (simp [ext_size]; try omega))).trans (by (simp (maxDischargeDepth := 8) [go_sem, World.cell?_alloc_past, ltk2, ltk3, ltk4, ltk5, ltk6, ltk7, ltk8, ltk9, *]))
          have cc28_5 : v28.cell? ⟨w.heap.size + 1 + 1, 1, none⟩ = some (.int .i64 d) := (hb28.cell (p := ⟨w.heap.size + 1 + 1, 1, none⟩) (by first | omega | (simp [ext_size]; try omega))).trans (by (simp (maxDischargeDepth := 8) [go_sem, World.cell?_alloc_past, ltk2, ltk3, ltk4, ltk5, ltk6, ltk7, ltk8, ltk9, *]))
          have cc28_6 : v28.cell? ⟨w.heap.size + 1 + 1 + 1, 0, none⟩ = some (.int .i64 p) := (hb28.cell (p := ⟨w.heap.size + 1 + 1 + 1, 0, none⟩) (by first | omega | (simp [ext_size]; try omega))).trans (by (simp (maxDischargeDepth := 8) [go_sem, World.cell?_alloc_past, ltk2, ltk3, ltk4, ltk5, ltk6, ltk7, ltk8, ltk9, *]))
          have cc28_7 : v28.cell? ⟨w.heap.size + 1 + 1 + 1, 1, none⟩ = some (.int .i64 q) := (hb28.cell (p := ⟨w.heap.size + 1 + 1 + 1, 1, none⟩) (by first | omega | (simp [ext_size]; try omega))).trans (by (simp (maxDischargeDepth := 8) [go_sem, World.cell?_alloc_past, ltk2, ltk3, ltk4, ltk5, ltk6, ltk7, ltk8, ltk9, *]))
          have zl28_0 : w.heap.size < v28.heap.size := by omega
          have zl28_1 : w.heap.size + 1 < v28.heap.size := by omega
          have zl28_2 : w.heap.size + 1 + 1 < v28.heap.size := by omega
          have zl28_3 : w.heap.size + 1 + 1 + 1 < v28.heap.size := by omega
          have hB28 : Below w.heap.size w v28 := Below.trans (by (repeat (first | with_reducible exact hB27 | (with_reducible refine bext ?_ _ _) | (with_reducible refine below_drewN ?_ _) | (with_reducible refine Below.drew ?_) | (with_reducible refine bal ?_ _) | (with_reducible refine bset ?_ (by first | omega | (simp <;> omega)) _)))) (hb28.mono (by first | omega | (simp [ext_size]; try omega)))
          clear hb28
          clear cc27_0 cc27_1 cc27_2 cc27_3 cc27_4 cc27_5 cc27_6 cc27_7 zl27_0 zl27_1 zl27_2 zl27_3 zz27 hB27
          go_wp2_with fail
          with_reducible refine (A9 _).mono ?_
          rintro e v29 ⟨rfl, hb29⟩
          have zz29 := hb29.size
          try simp [ext_size] at zz29
          have cc29_0 : v29.cell? ⟨w.heap.size, 0, none⟩ = some (.int .i64 a) := (hb29.cell (p := ⟨w.heap.size, 0, none⟩) (by first | omega | (simp [ext_size]; try omega))).trans (by (simp (maxDischargeDepth := 8) [go_sem, World.cell?_alloc_past, ltk2, ltk3, ltk4, ltk5, ltk6, ltk7, ltk8, ltk9, *]))
          have cc29_1 : v29.cell? ⟨w.heap.size, 1, none⟩ = some (.int .i64 b) := (hb29.cell (p := ⟨w.heap.size, 1, none⟩) (by first | omega | (simp [ext_size]; try omega))).trans (by (simp (maxDischargeDepth := 8) [go_sem, World.cell?_alloc_past, ltk2, ltk3, ltk4, ltk5, ltk6, ltk7, ltk8, ltk9, *]))
          have cc29_2 : v29.cell? ⟨w.heap.size + 1, 0, none⟩ = some (.int .i64 c) := (hb29.cell (p := ⟨w.heap.size + 1, 0, none⟩) (by first | omega | (simp [ext_size]; try omega))).trans (by (simp (maxDischargeDepth := 8) [go_sem, World.cell?_alloc_past, ltk2, ltk3, ltk4, ltk5, ltk6, ltk7, ltk8, ltk9, *]))
          have cc29_3 : v29.cell? ⟨w.heap.size + 1, 1, none⟩ = some (.int .i64 e) := (hb29.cell (p := ⟨w.heap.size + 1, 1, none⟩) (by first | omega | (simp [ext_size]; try omega))).trans (by (simp (maxDischargeDepth := 8) [go_sem, World.cell?_alloc_past, ltk2, ltk3, ltk4, ltk5, ltk6, ltk7, ltk8, ltk9, *]))
          have cc29_4 : v29.cell? ⟨w.heap.size + 1 + 1, 0, none⟩ = some (.int .i64 n) := (hb29.cell (p := ⟨w.heap.size + 1 + 1, 0, none⟩) (by first | omega | (simp [ext_size]; try omega))).trans (by (simp (maxDischargeDepth := 8) [go_sem, World.cell?_alloc_past, ltk2, ltk3, ltk4, ltk5, ltk6, ltk7, ltk8, ltk9, *]))
          have cc29_5 : v29.cell? ⟨w.heap.size + 1 + 1, 1, none⟩ = some (.int .i64 d) := (hb29.cell (p := ⟨w.heap.size + 1 + 1, 1, none⟩) (by first | omega | (simp [ext_size]; try omega))).trans (by (simp (maxDischargeDepth := 8) [go_sem, World.cell?_alloc_past, ltk2, ltk3, ltk4, ltk5, ltk6, ltk7, ltk8, ltk9, *]))
          have cc29_6 : v29.cell? ⟨w.heap.size + 1 + 1 + 1, 0, none⟩ = some (.int .i64 p) := (hb29.cell (p := ⟨w.heap.size + 1 + 1 + 1, 0, none⟩) (by first | omega | (simp [ext_size]; try omega))).trans (by (simp (maxDischargeDepth := 8) [go_sem, World.cell?_alloc_past, ltk2, ltk3, ltk4, ltk5, ltk6, ltk7, ltk8, ltk9, *]))
          have cc29_7 : v29.cell? ⟨w.heap.size + 1 + 1 + 1, 1, none⟩ = some (.int .i64 q) := (hb29.cell (p := ⟨w.heap.size + 1 + 1 + 1, 1, none⟩) (by first | omega | (simp [ext_size]; try omega))).trans (by (simp (maxDischargeDepth := 8) [go_sem, World.cell?_alloc_past, ltk2, ltk3, ltk4, ltk5, ltk6, ltk7, ltk8, ltk9, *]))
          have cc29_8 : v29.cell? ⟨v28.heap.size, 0, none⟩ = some (.int .i64 s0) := (hb29.cell (p := ⟨v28.heap.size, 0, none⟩) (by first | omega | (simp [ext_size]; try omega))).trans (by (simp (maxDischargeDepth := 8) [go_sem, World.cell?_alloc_past, ltk2, ltk3, ltk4, ltk5, ltk6, ltk7, ltk8, ltk9, *]))
          have cc29_9 : v29.cell? ⟨v28.heap.size, 1, none⟩ = some (.int .i64 s1) := (hb29.cell (p := ⟨v28.heap.size, 1, none⟩) (by first | omega | (simp [ext_size]; try omega))).trans (by (simp (maxDischargeDepth := 8) [go_sem, World.cell?_alloc_past, ltk2, ltk3, ltk4, ltk5, ltk6, ltk7, ltk8, ltk9, *]))
          have zl29_0 : w.heap.size < v29.heap.size := by omega
          have zl29_1 : w.heap.size + 1 < v29.heap.size := by omega
          have zl29_2 : w.heap.size + 1 + 1 < v29.heap.size := by omega
          have zl29_3 : w.heap.size + 1 + 1 + 1 < v29.heap.size := by omega
          have zl29_4 : v28.heap.size < v29.heap.size := by omega
          have hB29 : Below w.heap.size w v29 := Below.trans (by (repeat (first | with_reducible exact hB28 | (with_reducible refine bext ?_ _ _) | (with_reducible refine below_drewN ?_ _) | (with_reducible refine Below.drew ?_) | (with_reducible refine bal ?_ _) | (with_reducible refine bset ?_ (by first | omega | (simp <;> omega)) _)))) (hb29.mono (by first | omega | (simp [ext_size]; try omega)))
          clear hb29
          clear cc28_0 cc28_1 cc28_2 cc28_3 cc28_4 cc28_5 cc28_6 cc28_7 zl28_0 zl28_1 zl28_2 zl28_3 zz28 hB28
          go_wp2_with fail
          with_reducible refine (B1 _).mono ?_
          rintro e v30 ⟨rfl, hb30⟩
          have zz30 := hb30.size
          try simp [ext_size] at zz30
          have cc30_0 : v30.cell? ⟨w.heap.size, 0, none⟩ = some (.int .i64 a) := (hb30.cell (p := ⟨w.heap.size, 0, none⟩) (by first | omega | (simp [ext_size]; try omega))).trans (by (simp (maxDischargeDepth := 8) [go_sem, World.cell?_alloc_past, ltk2, ltk3, ltk4, ltk5, ltk6, ltk7, ltk8, ltk9, *]))
          have cc30_1 : v30.cell? ⟨w.heap.size, 1, none⟩ = some (.int .i64 b) := (hb30.cell (p := ⟨w.heap.size, 1, none⟩) (by first | omega | (simp [ext_size]; try omega))).trans (by (simp (maxDischargeDepth := 8) [go_sem, World.cell?_alloc_past, ltk2, ltk3, ltk4, ltk5, ltk6, ltk7, ltk8, ltk9, *]))
          have cc30_2 : v30.cell? ⟨w.heap.size + 1, 0, none⟩ = some (.int .i64 c) := (hb30.cell (p := ⟨w.heap.size + 1, 0, none⟩) (by first | omega | (simp [ext_size]; try omega))).trans (by (simp (maxDischargeDepth := 8) [go_sem, World.cell?_alloc_past, ltk2, ltk3, ltk4, ltk5, ltk6, ltk7, ltk8, ltk9, *]))
          have cc30_3 : v30.cell? ⟨w.heap.size + 1, 1, none⟩ = some (.int .i64 e) := (hb30.cell (p := ⟨w.heap.size + 1, 1, none⟩) (by first | omega | (simp [ext_size]; try omega))).trans (by (simp (maxDischargeDepth := 8) [go_sem, World.cell?_alloc_past, ltk2, ltk3, ltk4, ltk5, ltk6, ltk7, ltk8, ltk9, *]))
          have cc30_4 : v30.cell? ⟨w.heap.size + 1 + 1, 0, none⟩ = some (.int .i64 n) := (hb30.cell (p := ⟨w.heap.size + 1 + 1, 0, none⟩) (by first | omega | (simp [ext_size]; try omega))).trans (by (simp (maxDischargeDepth := 8) [go_sem, World.cell?_alloc_past, ltk2, ltk3, ltk4, ltk5, ltk6, ltk7, ltk8, ltk9, *]))
          have cc30_5 : v30.cell? ⟨w.heap.size + 1 + 1, 1, none⟩ = some (.int .i64 d) := (hb30.cell (p := ⟨w.heap.size + 1 + 1, 1, none⟩) (by first | omega | (simp [ext_size]; try omega))).trans (by (simp (maxDischargeDepth := 8) [go_sem, World.cell?_alloc_past, ltk2, ltk3, ltk4, ltk5, ltk6, ltk7, ltk8, ltk9, *]))
          have cc30_6 : v30.cell? ⟨w.heap.size + 1 + 1 + 1, 0, none⟩ = some (.int .i64 p) := (hb30.cell (p := ⟨w.heap.size + 1 + 1 + 1, 0, none⟩) (by first | omega | (simp [ext_size]; try omega))).trans (by (simp (maxDischargeDepth := 8) [go_sem, World.cell?_alloc_past, ltk2, ltk3, ltk4, ltk5, ltk6, ltk7, ltk8, ltk9, *]))
          have cc30_7 : v30.cell? ⟨w.heap.size + 1 + 1 + 1, 1, none⟩ = some (.int .i64 q) := (hb30.cell (p := ⟨w.heap.size + 1 + 1 + 1, 1, none⟩) (by first | omega | (simp [ext_size]; try omega))).trans (by (simp (maxDischargeDepth := 8) [go_sem, World.cell?_alloc_past, ltk2, ltk3, ltk4, ltk5, ltk6, ltk7, ltk8, ltk9, *]))
          have cc30_8 : v30.cell? ⟨v28.heap.size, 0, none⟩ = some (.int .i64 s0) := (hb30.cell (p := ⟨v28.heap.size, 0, none⟩) (by first | omega | (simp [ext_size]; try omega))).trans (by (simp (maxDischargeDepth := 8) [go_sem, World.cell?_alloc_past, ltk2, ltk3, ltk4, ltk5, ltk6, ltk7, ltk8, ltk9, *]))
          have cc30_9 : v30.cell? ⟨v28.heap.size, 1, none⟩ = some (.int .i64 s1) := (hb30.cell (p := ⟨v28.heap.size, 1, none⟩) (by first | omega | (simp [ext_size]; try omega))).trans (by (simp (maxDischargeDepth := 8) [go_sem, World.cell?_alloc_past, ltk2, ltk3, ltk4, ltk5, ltk6, ltk7, ltk8, ltk9, *]))
          have cc30_10 : v30.cell? ⟨v29.heap.size, 0, none⟩ = some (.int .i64 t0) := (hb30.cell (p := ⟨v29.heap.size, 0, none⟩) (by first | omega | (simp [ext_size]; try omega))).trans (by (simp (maxDischargeDepth := 8) [go_sem, World.cell?_alloc_past, ltk2, ltk3, ltk4, ltk5, ltk6, ltk7, ltk8, ltk9, *]))
          have cc30_11 : v30.cell? ⟨v29.heap.size, 1, none⟩ = some (.int .i64 t1) := (hb30.cell (p := ⟨v29.heap.size, 1, none⟩) (by first | omega | (simp [ext_size]; try omega))).trans (by (simp (maxDischargeDepth := 8) [go_sem, World.cell?_alloc_past, ltk2, ltk3, ltk4, ltk5, ltk6, ltk7, ltk8, ltk9, *]))
          have zl30_0 : w.heap.size < v30.heap.size := by omega
          have zl30_1 : w.heap.size + 1 < v30.heap.size := by omega
          have zl30_2 : w.heap.size + 1 + 1 < v30.heap.size := by omega
          have zl30_3 : w.heap.size + 1 + 1 + 1 < v30.heap.size := by omega
          have zl30_4 : v28.heap.size < v30.heap.size := by omega
          have zl30_5 : v29.heap.size < v30.heap.size := by omega
          have hB30 : Below w.heap.size w v30 := Below.trans (by (repeat (first | with_reducible exact hB29 | (with_reducible refine bext ?_ _ _) | (with_reducible refine below_drewN ?_ _) | (with_reducible refine Below.drew ?_) | (with_reducible refine bal ?_ _) | (with_reducible refine bset ?_ (by first | omega | (simp <;> omega)) _)))) (hb30.mono (by first | omega | (simp [ext_size]; try omega)))
          clear hb30
          clear cc29_0 cc29_1 cc29_2 cc29_3 cc29_4 cc29_5 cc29_6 cc29_7 cc29_8 cc29_9 zl29_0 zl29_1 zl29_2 zl29_3 zl29_4 zz29 hB29
          go_wp2_with fail
          with_reducible refine (B2 _).mono ?_
          rintro e v31 ⟨rfl, hb31⟩
          have zz31 := hb31.size
          try simp [ext_size] at zz31
          have cc31_0 : v31.cell? ⟨w.heap.size, 0, none⟩ = some (.int .i64 a) := (hb31.cell (p := ⟨w.heap.size, 0, none⟩) (by first | omega | (simp [ext_size]; try omega))).trans (by (simp (maxDischargeDepth := 8) [go_sem, World.cell?_alloc_past, ltk2, ltk3, ltk4, ltk5, ltk6, ltk7, ltk8, ltk9, *]))
          have cc31_1 : v31.cell? ⟨w.heap.size, 1, none⟩ = some (.int .i64 b) := (hb31.cell (p := ⟨w.heap.size, 1, none⟩) (by first | omega | (simp [ext_size]; try omega))).trans (by (simp (maxDischargeDepth := 8) [go_sem, World.cell?_alloc_past, ltk2, ltk3, ltk4, ltk5, ltk6, ltk7, ltk8, ltk9, *]))
          have cc31_2 : v31.cell? ⟨w.heap.size + 1, 0, none⟩ = some (.int .i64 c) := (hb31.cell (p := ⟨w.heap.size + 1, 0, none⟩) (by first | omega | (simp [ext_size]; try omega))).trans (by (simp (maxDischargeDepth := 8) [go_sem, World.cell?_alloc_past, ltk2, ltk3, ltk4, ltk5, ltk6, ltk7, ltk8, ltk9, *]))
          have cc31_3 : v31.cell? ⟨w.heap.size + 1, 1, none⟩ = some (.int .i64 e) := (hb31.cell (p := ⟨w.heap.size + 1, 1, none⟩) (by first | omega | (simp [ext_size]; try omega))).trans (by (simp (maxDischargeDepth := 8) [go_sem, World.cell?_alloc_past, ltk2, ltk3, ltk4, ltk5, ltk6, ltk7, ltk8, ltk9, *]))
          have cc31_4 : v31.cell? ⟨w.heap.size + 1 + 1, 0, none⟩ = some (.int .i64 n) := (hb31.cell (p := ⟨w.heap.size + 1 + 1, 0, none⟩) (by first | omega | (simp [ext_size]; try omega))).trans (by (simp (maxDischargeDepth := 8) [go_sem, World.cell?_alloc_past, ltk2, ltk3, ltk4, ltk5, ltk6, ltk7, ltk8, ltk9, *]))
          have cc31_5 : v31.cell? ⟨w.heap.size + 1 + 1, 1, none⟩ = some (.int .i64 d) := (hb31.cell (p := ⟨w.heap.size + 1 + 1, 1, none⟩) (by first | omega | (simp [ext_size]; try omega))).trans (by (simp (maxDischargeDepth := 8) [go_sem, World.cell?_alloc_past, ltk2, ltk3, ltk4, ltk5, ltk6, ltk7, ltk8, ltk9, *]))
          have cc31_6 : v31.cell? ⟨w.heap.size + 1 + 1 + 1, 0, none⟩ = some (.int .i64 p) := (hb31.cell (p := ⟨w.heap.size + 1 + 1 + 1, 0, none⟩) (by first | omega | (simp [ext_size]; try omega))).trans (by (simp (maxDischargeDepth := 8) [go_sem, World.cell?_alloc_past, ltk2, ltk3, ltk4, ltk5, ltk6, ltk7, ltk8, ltk9, *]))
          have cc31_7 : v31.cell? ⟨w.heap.size + 1 + 1 + 1, 1, none⟩ = some (.int .i64 q) := (hb31.cell (p := ⟨w.heap.size + 1 + 1 + 1, 1, none⟩) (by first | omega | (simp [ext_size]; try omega))).trans (by (simp (maxDischargeDepth := 8) [go_sem, World.cell?_alloc_past, ltk2, ltk3, ltk4, ltk5, ltk6, ltk7, ltk8, ltk9, *]))
          have cc31_8 : v31.cell? ⟨v28.heap.size, 0, none⟩ = some (.int .i64 s0) := (hb31.cell (p := ⟨v28.heap.size, 0, none⟩) (by first | omega | (simp [ext_size]; try omega))).trans (by (simp (maxDischargeDepth := 8) [go_sem, World.cell?_alloc_past, ltk2, ltk3, ltk4, ltk5, ltk6, ltk7, ltk8, ltk9, *]))
          have cc31_9 : v31.cell? ⟨v28.heap.size, 1, none⟩ = some (.int .i64 s1) := (hb31.cell (p := ⟨v28.heap.size, 1, none⟩) (by first | omega | (simp [ext_size]; try omega))).trans (by (simp (maxDischargeDepth := 8) [go_sem, World.cell?_alloc_past, ltk2, ltk3, ltk4, ltk5, ltk6, ltk7, ltk8, ltk9, *]))
          have cc31_10 : v31.cell? ⟨v29.heap.size, 0, none⟩ = some (.int .i64 t0) := (hb31.cell (p := ⟨v29.heap.size, 0, none⟩) (by first | omega | (simp [ext_size]; try omega))).trans (by (simp (maxDischargeDepth := 8) [go_sem, World.cell?_alloc_past, ltk2, ltk3, ltk4, ltk5, ltk6, ltk7, ltk8, ltk9, *]))
          have cc31_11 : v31.cell? ⟨v29.heap.size, 1, none⟩ = some (.int .i64 t1) := (hb31.cell (p := ⟨v29.heap.size, 1, none⟩) (by first | omega | (simp [ext_size]; try omega))).trans (by (simp (maxDischargeDepth := 8) [go_sem, World.cell?_alloc_past, ltk2, ltk3, ltk4, ltk5, ltk6, ltk7, ltk8, ltk9, *]))
          have cc31_12 : v31.cell? ⟨v30.heap.size, 0, none⟩ = some (.int .i64 u0) := (hb31.cell (p := ⟨v30.heap.size, 0, none⟩) (by first | omega | (simp [ext_size]; try omega))).trans (by (simp (maxDischargeDepth := 8) [go_sem, World.cell?_alloc_past, ltk2, ltk3, ltk4, ltk5, ltk6, ltk7, ltk8, ltk9, *]))
          have cc31_13 : v31.cell? ⟨v30.heap.size, 1, none⟩ = some (.int .i64 u1) := (hb31.cell (p := ⟨v30.heap.size, 1, none⟩) (by first | omega | (simp [ext_size]; try omega))).trans (by (simp (maxDischargeDepth := 8) [go_sem, World.cell?_alloc_past, ltk2, ltk3, ltk4, ltk5, ltk6, ltk7, ltk8, ltk9, *]))
          have zl31_0 : w.heap.size < v31.heap.size := by omega
          have zl31_1 : w.heap.size + 1 < v31.heap.size := by omega
          have zl31_2 : w.heap.size + 1 + 1 < v31.heap.size := by omega
          have zl31_3 : w.heap.size + 1 + 1 + 1 < v31.heap.size := by omega
          have zl31_4 : v28.heap.size < v31.heap.size := by omega
          have zl31_5 : v29.heap.size < v31.heap.size := by omega
          have zl31_6 : v30.heap.size < v31.heap.size := by omega
          have hB31 : Below w.heap.size w v31 := Below.trans (by (repeat (first | with_reducible exact hB30 | (with_reducible refine bext ?_ _ _) | (with_reducible refine below_drewN ?_ _) | (with_reducible refine Below.drew ?_) | (with_reducible refine bal ?_ _) | (with_reducible refine bset ?_ (by first | omega | (simp <;> omega)) _)))) (hb31.mono (by first | omega | (simp [ext_size]; try omega)))
          clear hb31
          clear cc30_0 cc30_1 cc30_2 cc30_3 cc30_4 cc30_5 cc30_6 cc30_7 cc30_8 cc30_9 cc30_10 cc30_11 zl30_0 zl30_1 zl30_2 zl30_3 zl30_4 zl30_5 zz30 hB30
          go_wp2_with fail
          with_reducible refine (B3 _).mono ?_
          rintro e v32 ⟨rfl, hb32⟩
          have zz32 := hb32.size
          try simp [ext_size] at zz32
          have cc32_0 : v32.cell? ⟨w.heap.size, 0, none⟩ = some (.int .i64 a) := (hb32.cell (p := ⟨w.heap.size, 0, none⟩) (by first | omega | (simp [ext_size]; try omega))).trans (by (simp (maxDischargeDepth := 8) [go_sem, World.cell?_alloc_past, ltk2, ltk3, ltk4, ltk5, ltk6, ltk7, ltk8, ltk9, *]))
          have cc32_1 : v32.cell? ⟨w.heap.size, 1, none⟩ = some (.int .i64 b) := (hb32.cell (p := ⟨w.heap.size, 1, none⟩) (by first | omega | (simp [ext_size]; try omega))).trans (by (simp (maxDischargeDepth := 8) [go_sem, World.cell?_alloc_past, ltk2, ltk3, ltk4, ltk5, ltk6, ltk7, ltk8, ltk9, *]))
          have cc32_2 : v32.cell? ⟨w.heap.size + 1, 0, none⟩ = some (.int .i64 c) := (hb32.cell (p := ⟨w.heap.size + 1, 0, none⟩) (by first | omega | (simp [ext_size]; try omega))).trans (by (simp (maxDischargeDepth := 8) [go_sem, World.cell?_alloc_past, ltk2, ltk3, ltk4, ltk5, ltk6, ltk7, ltk8, ltk9, *]))
          have cc32_3 : v32.cell? ⟨w.heap.size + 1, 1, none⟩ = some (.int .i64 e) := (hb32.cell (p := ⟨w.heap.size + 1, 1, none⟩) (by first | omega | (simp [ext_size]; try omega))).trans (by (simp (maxDischargeDepth := 8) [go_sem, World.cell?_alloc_past, ltk2, ltk3, ltk4, ltk5, ltk6, ltk7, ltk8, ltk9, *]))
          have cc32_4 : v32.cell? ⟨w.heap.size + 1 + 1, 0, none⟩ = some (.int .i64 n) := (hb32.cell (p := ⟨w.heap.size + 1 + 1, 0, none⟩) (by first | omega | (simp [ext_size]; try omega))).trans (by (simp (maxDischargeDepth := 8) [go_sem, World.cell?_alloc_past, ltk2, ltk3, ltk4, ltk5, ltk6, ltk7, ltk8, ltk9, *]))
          have cc32_5 : v32.cell? ⟨w.heap.size + 1 + 1, 1, none⟩ = some (.int .i64 d) := (hb32.cell (p := ⟨w.heap.size + 1 + 1, 1, none⟩) (by first | omega | (simp [ext_size]; try omega))).trans (by (simp (maxDischargeDepth := 8) [go_sem, World.cell?_alloc_past, ltk2, ltk3, ltk4, ltk5, ltk6, ltk7, ltk8, ltk9, *]))
          have cc32_6 : v32.cell? ⟨w.heap.size + 1 + 1 + 1, 0, none⟩ = some (.int .i64 p) := (hb32.cell (p := ⟨w.heap.size + 1 + 1 + 1, 0, none⟩) (by first | omega | (simp [ext_size]; try omega))).trans (by (simp (maxDischargeDepth := 8) [go_sem, World.cell?_alloc_past, ltk2, ltk3, ltk4, ltk5, ltk6, ltk7, ltk8, ltk9, *]))
          have cc32_7 : v32.cell? ⟨w.heap.size + 1 + 1 + 1, 1, none⟩ = some (.int .i64 q) := (hb32.cell (p := ⟨w.heap.size + 1 + 1 + 1, 1, none⟩) (by first | omega | (simp [ext_size]; try omega))).trans (by (simp (maxDischargeDepth := 8) [go_sem, World.cell?_alloc_past, ltk2, ltk3, ltk4, ltk5, ltk6, ltk7, ltk8, ltk9, *]))
          have cc32_8 : v32.cell? ⟨v28.heap.size, 0, none⟩ = some (.int .i64 s0) := (hb32.cell (p := ⟨v28.heap.size, 0, none⟩) (by first | omega | (simp [ext_size]; try omega))).trans (by (simp (maxDischargeDepth := 8) [go_sem, World.cell?_alloc_past, ltk2, ltk3, ltk4, ltk5, ltk6, ltk7, ltk8, ltk9, *]))
          have cc32_9 : v32.cell? ⟨v28.heap.size, 1, none⟩ = some (.int .i64 s1) := (hb32.cell (p := ⟨v28.heap.size, 1, none⟩) (by first | omega | (simp [ext_size]; try omega))).trans (by (simp (maxDischargeDepth := 8) [go_sem, World.cell?_alloc_past, ltk2, ltk3, ltk4, ltk5, ltk6, ltk7, ltk8, ltk9, *]))
          have cc32_10 : v32.cell? ⟨v29.heap.size, 0, none⟩ = some (.int .i64 t0) := (hb32.cell (p := ⟨v29.heap.size, 0, none⟩) (by first | omega | (simp [ext_size]; try omega))).trans (by (simp (maxDischargeDepth := 8) [go_sem, World.cell?_alloc_past, ltk2, ltk3, ltk4, ltk5, ltk6, ltk7, ltk8, ltk9, *]))
          have cc32_11 : v32.cell? ⟨v29.heap.size, 1, none⟩ = some (.int .i64 t1) := (hb32.cell (p := ⟨v29.heap.size, 1, none⟩) (by first | omega | (simp [ext_size]; try omega))).trans (by (simp (maxDischargeDepth := 8) [go_sem, World.cell?_alloc_past, ltk2, ltk3, ltk4, ltk5, ltk6, ltk7, ltk8, ltk9, *]))
          have cc32_12 : v32.cell? ⟨v30.heap.size, 0, none⟩ = some (.int .i64 u0) := (hb32.cell (p := ⟨v30.heap.size, 0, none⟩) (by first | omega | (simp [ext_size]; try omega))).trans (by (simp (maxDischargeDepth := 8) [go_sem, World.cell?_alloc_past, ltk2, ltk3, ltk4, ltk5, ltk6, ltk7, ltk8, ltk9, *]))
          have cc32_13 : v32.cell? ⟨v30.heap.size, 1, none⟩ = some (.int .i64 u1) := (hb32.cell (p := ⟨v30.heap.size, 1, none⟩) (by first | omega | (simp [ext_size]; try omega))).trans (by (simp (maxDischargeDepth := 8) [go_sem, World.cell?_alloc_past, ltk2, ltk3, ltk4, ltk5, ltk6, ltk7, ltk8, ltk9, *]))
          have cc32_14 : v32.cell? ⟨v31.heap.size, 0, none⟩ = some (.int .i64 x0) := (hb32.cell (p := ⟨v31.heap.size, 0, none⟩) (by first | omega | (simp [ext_size]; try omega))).trans (by (simp (maxDischargeDepth := 8) [go_sem, World.cell?_alloc_past, ltk2, ltk3, ltk4, ltk5, ltk6, ltk7, ltk8, ltk9, *]))
          have cc32_15 : v32.cell? ⟨v31.heap.size, 1, none⟩ = some (.int .i64 x1) := (hb32.cell (p := ⟨v31.heap.size, 1, none⟩) (by first | omega | (simp [ext_size]; try omega))).trans (by (simp (maxDischargeDepth := 8) [go_sem, World.cell?_alloc_past, ltk2, ltk3, ltk4, ltk5, ltk6, ltk7, ltk8, ltk9, *]))
          have zl32_0 : w.heap.size < v32.heap.size := by omega
          have zl32_1 : w.heap.size + 1 < v32.heap.size := by omega
          have zl32_2 : w.heap.size + 1 + 1 < v32.heap.size := by omega
          have zl32_3 : w.heap.size + 1 + 1 + 1 < v32.heap.size := by omega
          have zl32_4 : v28.heap.size < v32.heap.size := by omega
          have zl32_5 : v29.heap.size < v32.heap.size := by omega
          have zl32_6 : v30.heap.size < v32.heap.size := by omega
          have zl32_7 : v31.heap.size < v32.heap.size := by omega
          have hB32 : Below w.heap.size w v32 := Below.trans (by (repeat (first | with_reducible exact hB31 | (with_reducible refine bext ?_ _ _) | (with_reducible refine below_drewN ?_ _) | (with_reducible refine Below.drew ?_) | (with_reducible refine bal ?_ _) | (with_reducible refine bset ?_ (by first | omega | (simp <;> omega)) _)))) (hb32.mono (by first | omega | (simp [ext_size]; try omega)))
          clear hb32
          clear cc31_0 cc31_1 cc31_2 cc31_3 cc31_4 cc31_5 cc31_6 cc31_7 cc31_8 cc31_9 cc31_10 cc31_11 cc31_12 cc31_13 zl31_0 zl31_1 zl31_2 zl31_3 zl31_4 zl31_5 zl31_6 zz31 hB31
          go_wp2_with fail
          with_reducible refine (B4 _).mono ?_
          rintro e v33 ⟨rfl, hb33⟩
          have zz33 := hb33.size
          try simp [ext_size] at zz33
          have cc33_0 : v33.cell? ⟨w.heap.size, 0, none⟩ = some (.int .i64 a) := (hb33.cell (p := ⟨w.heap.size, 0, none⟩) (by first | omega | (simp [ext_size]; try omega))).trans (by (simp (maxDischargeDepth := 8) [go_sem, World.cell?_alloc_past, ltk2, ltk3, ltk4, ltk5, ltk6, ltk7, ltk8, ltk9, *]))
          have cc33_1 : v33.cell? ⟨w.heap.size, 1, none⟩ = some (.int .i64 b) := (hb33.cell (p := ⟨w.heap.size, 1, none⟩) (by first | omega | (simp [ext_size]; try omega))).trans (by (simp (maxDischargeDepth := 8) [go_sem, World.cell?_alloc_past, ltk2, ltk3, ltk4, ltk5, ltk6, ltk7, ltk8, ltk9, *]))
          have cc33_2 : v33.cell? ⟨w.heap.size + 1, 0, none⟩ = some (.int .i64 c) := (hb33.cell (p := ⟨w.heap.size + 1, 0, none⟩) (by first | omega | (simp [ext_size]; try omega))).trans (by (simp (maxDischargeDepth := 8) [go_sem, World.cell?_alloc_past, ltk2, ltk3, ltk4, ltk5, ltk6, ltk7, ltk8, ltk9, *]))
          have cc33_3 : v33.cell? ⟨w.heap.size + 1, 1, none⟩ = some (.int .i64 e) := (hb33.cell (p := ⟨w.heap.size + 1, 1, none⟩) (by first | omega | (simp [ext_size]; try omega))).trans (by (simp (maxDischargeDepth := 8) [go_sem, World.cell?_alloc_past, ltk2, ltk3, ltk4, ltk5, ltk6, ltk7, ltk8, ltk9, *]))
          have cc33_4 : v33.cell? ⟨w.heap.size + 1 + 1, 0, none⟩ = some (.int .i64 n) := (hb33.cell (p := ⟨w.heap.size + 1 + 1, 0, none⟩) (by first | omega | (simp [ext_size]; try omega))).trans (by (simp (maxDischargeDepth := 8) [go_sem, World.cell?_alloc_past, ltk2, ltk3, ltk4, ltk5, ltk6, ltk7, ltk8, ltk9, *]))
          have cc33_5 : v33.cell? ⟨w.heap.size + 1 + 1, 1, none⟩ = some (.int .i64 d) := (hb33.cell (p := ⟨w.heap.size + 1 + 1, 1, none⟩) (by first | omega | (simp [ext_size]; try omega))).trans (by (simp (maxDischargeDepth := 8) [go_sem, World.cell?_alloc_past, ltk2, ltk3, ltk4, ltk5, ltk6, ltk7, ltk8, ltk9, *]))
          have cc33_6 : v33.cell? ⟨w.heap.size + 1 + 1 + 1, 0, none⟩ = some (.int .i64 p) := (hb33.cell (p := ⟨w.heap.size + 1 + 1 + 1, 0, none⟩) (by first | omega | (simp [ext_size]; try omega))).trans (by (simp (maxDischargeDepth := 8) [go_sem, World.cell?_alloc_past, ltk2, ltk3, ltk4, ltk5, ltk6, ltk7, ltk8, ltk9, *]))
          have cc33_7 : v33.cell? ⟨w.heap.size + 1 + 1 + 1, 1, none⟩ = some (.int .i64 q) := (hb33.cell (p := ⟨w.heap.size + 1 + 1 + 1, 1, none⟩) (by first | omega | (simp [ext_size]; try omega))).trans (by (simp (maxDischargeDepth := 8) [go_sem, World.cell?_alloc_past, ltk2, ltk3, ltk4, ltk5, ltk6, ltk7, ltk8, ltk9, *]))
          have cc33_8 : v33.cell? ⟨v28.heap.size, 0, none⟩ = some (.int .i64 s0) := (hb33.cell (p := ⟨v28.heap.size, 0, none⟩) (by first | omega | (simp [ext_size]; try omega))).trans (by (simp (maxDischargeDepth := 8) [go_sem, World.cell?_alloc_past, ltk2, ltk3, ltk4, ltk5, ltk6, ltk7, ltk8, ltk9, *]))
          have cc33_9 : v33.cell? ⟨v28.heap.size, 1, none⟩ = some (.int .i64 s1) := (hb33.cell (p := ⟨v28.heap.size, 1, none⟩) (by first | omega | (simp [ext_size]; try omega))).trans (by (simp (maxDischargeDepth := 8) [go_sem, World.cell?_alloc_past, ltk2, ltk3, ltk4, ltk5, ltk6, ltk7, ltk8, ltk9, *]))
          have cc33_10 : v33.cell? ⟨v29.heap.size, 0, none⟩ = some (.int .i64 t0) := (hb33.cell (p := ⟨v29.heap.size, 0, none⟩) (by first | omega | (simp [ext_size]; try omega))).trans (by (simp (maxDischargeDepth := 8) [go_sem, World.cell?_alloc_past, ltk2, ltk3, ltk4, ltk5, ltk6, ltk7, ltk8, ltk9, *]))
          have cc33_11 : v33.cell? ⟨v29.heap.size, 1, none⟩ = some (.int .i64 t1) := (hb33.cell (p := ⟨v29.heap.size, 1, none⟩) (by first | omega | (simp [ext_size]; try omega))).trans (by (simp (maxDischargeDepth := 8) [go_sem, World.cell?_alloc_past, ltk2, ltk3, ltk4, ltk5, ltk6, ltk7, ltk8, ltk9, *]))
          have cc33_12 : v33.cell? ⟨v30.heap.size, 0, none⟩ = some (.int .i64 u0) := (hb33.cell (p := ⟨v30.heap.size, 0, none⟩) (by first | omega | (simp [ext_size]; try omega))).trans (by (simp (maxDischargeDepth := 8) [go_sem, World.cell?_alloc_past, ltk2, ltk3, ltk4, ltk5, ltk6, ltk7, ltk8, ltk9, *]))
          have cc33_13 : v33.cell? ⟨v30.heap.size, 1, none⟩ = some (.int .i64 u1) := (hb33.cell (p := ⟨v30.heap.size, 1, none⟩) (by first | omega | (simp [ext_size]; try omega))).trans (by (simp (maxDischargeDepth := 8) [go_sem, World.cell?_alloc_past, ltk2, ltk3, ltk4, ltk5, ltk6, ltk7, ltk8, ltk9, *]))
          have cc33_14 : v33.cell? ⟨v31.heap.size, 0, none⟩ = some (.int .i64 x0) := (hb33.cell (p := ⟨v31.heap.size, 0, none⟩) (by first | omega | (simp [ext_size]; try omega))).trans (by (simp (maxDischargeDepth := 8) [go_sem, World.cell?_alloc_past, ltk2, ltk3, ltk4, ltk5, ltk6, ltk7, ltk8, ltk9, *]))
          have cc33_15 : v33.cell? ⟨v31.heap.size, 1, none⟩ = some (.int .i64 x1) := (hb33.cell (p := ⟨v31.heap.size, 1, none⟩) (by first | omega | (simp [ext_size]; try omega))).trans (by (simp (maxDischargeDepth := 8) [go_sem, World.cell?_alloc_past, ltk2, ltk3, ltk4, ltk5, ltk6, ltk7, ltk8, ltk9, *]))
          have cc33_16 : v33.cell? ⟨v32.heap.size, 0, none⟩ = some (.int .i64 y0) := (hb33.cell (p := ⟨v32.heap.size, 0, none⟩) (by first | omega | (simp [ext_size]; try omega))).trans (by (simp (maxDischargeDepth := 8) [go_sem, World.cell?_alloc_past, ltk2, ltk3, ltk4, ltk5, ltk6, ltk7, ltk8, ltk9, *]))
          have cc33_17 : v33.cell? ⟨v32.heap.size, 1, none⟩ = some (.int .i64 y1) := (hb33.cell (p := ⟨v32.heap.size, 1, none⟩) (by first | omega | (simp [ext_size]; try omega))).trans (by (simp (maxDischargeDepth := 8) [go_sem, World.cell?_alloc_past, ltk2, ltk3, ltk4, ltk5, ltk6, ltk7, ltk8, ltk9, *]))
          have zl33_0 : w.heap.size < v33.heap.size := by omega
          have zl33_1 : w.heap.size + 1 < v33.heap.size := by omega
          have zl33_2 : w.heap.size + 1 + 1 < v33.heap.size := by omega
          have zl33_3 : w.heap.size + 1 + 1 + 1 < v33.heap.size := by omega
          have zl33_4 : v28.heap.size < v33.heap.size := by omega
          have zl33_5 : v29.heap.size < v33.heap.size := by omega
          have zl33_6 : v30.heap.size < v33.heap.size := by omega
          have zl33_7 : v31.heap.size < v33.heap.size := by omega
          have zl33_8 : v32.heap.size < v33.heap.size := by omega
          have hB33 : Below w.heap.size w v33 := Below.trans (by (repeat (first | with_reducible exact hB32 | (with_reducible refine bext ?_ _ _) | (with_reducible refine below_drewN ?_ _) | (with_reducible refine Below.drew ?_) | (with_reducible refine bal ?_ _) | (with_reducible refine bset ?_ (by first | omega | (simp <;> omega)) _)))) (hb33.mono (by first | omega | (simp [ext_size]; try omega)))
          clear hb33
          clear cc32_0 cc32_1 cc32_2 cc32_3 cc32_4 cc32_5 cc32_6 cc32_7 cc32_8 cc32_9 cc32_10 cc32_11 cc32_12 cc32_13 cc32_14 cc32_15 zl32_0 zl32_1 zl32_2 zl32_3 zl32_4 zl32_5 zl32_6 zl32_7 zz32 hB32
          clear A6 A7 A8 A9 B1 B2 B3 B4
          go_wp2_with (first | (go_at_call 33; with_reducible refine (I1.out (by first | assumption | rfl) (by first | assumption | rfl) _).mono ?_; rintro e w9 ⟨rfl, hb9⟩; obtain ⟨l9, d9, rfl⟩ := toExt hb9; clear hb9) | (go_at_call 33; with_reducible refine (I2.out (by first | assumption | rfl) (by first | assumption | rfl) _).mono ?_; rintro e w9 ⟨rfl, hb9⟩; obtain ⟨l9, d9, rfl⟩ := toExt hb9; clear hb9) | (go_at_call 33; with_reducible refine (I3.out (by first | assumption | rfl) (by first | assumption | rfl) _).mono ?_; rintro e w9 ⟨rfl, hb9⟩; obtain ⟨l9, d9, rfl⟩ := toExt hb9; clear hb9) | (go_at_call 20; with_reducible refine (AL _).mono ?_; rintro e w9 ⟨rfl, hb9⟩; obtain ⟨l9, d9, rfl⟩ := toExt hb9; clear hb9))
          all_goals go_ret
          all_goals exact ⟨rfl, by (repeat (first | with_reducible exact hB33 | (with_reducible refine bext ?_ _ _) | (with_reducible refine below_drewN ?_ _) | (with_reducible refine Below.drew ?_) | (with_reducible refine bal ?_ _) | (with_reducible refine bset ?_ (by first | omega | (simp <;> omega)) _)))⟩
        ·
          have hC' : inB c e p q = false := by simpa using hC
          rw [hA] at A6
          rw [hC'] at A7
          clear IA IB IC hA hC hC' A8 A9 B1 B2 B3 B4
          go_wp2_with fail
          with_reducible refine (A6 _).mono ?_
          rintro e v34 ⟨rfl, hb34⟩
          have zz34 := hb34.size
          try simp [ext_size] at zz34
          have cc34_0 : v34.cell? ⟨w.heap.size, 0, none⟩ = some (.int .i64 a) := (hb34.cell (p := ⟨w.heap.size, 0, none⟩) (by first | omega | (simp [ext_size]; try omega))).trans (by (simp (maxDischargeDepth := 8) [go_sem, World.cell?_alloc_past, ltk2, ltk3, ltk4, ltk5, ltk6, ltk7, ltk8, ltk9, *]))
          have cc34_1 : v34.cell? ⟨w.heap.size, 1, none⟩ = some (.int .i64 b) := (hb34.cell (p := ⟨w.heap.size, 1, none⟩) (by first | omega | (simp [ext_size]; try omega))).trans (by (simp (maxDischargeDepth := 8) [go_sem, World.cell?_alloc_past, ltk2, ltk3, ltk4, ltk5, ltk6, ltk7, ltk8, ltk9, *]))
          have cc34_2 : v34.cell? ⟨w.heap.size + 1, 0, none⟩ = some (.int .i64 c) := (hb34.cell (p := ⟨w.heap.size + 1, 0, none⟩) (by first | omega | (simp [ext_size]; try omega))).trans (by (simp (maxDischargeDepth := 8) [go_sem, World.cell?_alloc_past, ltk2, ltk3, ltk4, ltk5, ltk6, ltk7, ltk8, ltk9, *]))
          have cc34_3 : v34.cell? ⟨w.heap.size + 1, 1, none⟩ = some (.int .i64 e) := (hb34.cell (p := ⟨w.heap.size + 1, 1, none⟩) (by first | omega | (simp [ext_size]; try omega))).trans (by (simp (maxDischargeDepth := 8) [go_sem, World.cell?_alloc_past, ltk2, ltk3, ltk4, ltk5, ltk6, ltk7, ltk8, ltk9, *]))
          have cc34_4 : v34.cell? ⟨w.heap.size + 1 + 1, 0, none⟩ = some (.int .i64 n) := (hb34.cell (p := ⟨w.heap.size + 1 + 1, 0, none⟩) (by first | omega | (simp [ext_size]; try omega))).trans (by (simp (maxDischargeDepth := 8) [go_sem, World.cell?_alloc_past, ltk2, ltk3, ltk4, ltk5, ltk6, ltk7, ltk8, ltk9, *]))
          have cc34_5 : v34.cell? ⟨w.heap.size + 1 + 1, 1, none⟩ = some (.int .i64 d) := (hb34.cell (p := ⟨w.heap.size + 1 + 1, 1, none⟩) (by first | omega | (simp [ext_size]; try omega))).trans (by (simp (maxDischargeDepth := 8) [go_sem, World.cell?_alloc_past, ltk2, ltk3, ltk4, ltk5, ltk6, ltk7, ltk8, ltk9, *]))
          have cc34_6 : v34.cell? ⟨w.heap.size + 1 + 1 + 1, 0, none⟩ = some (.int .i64 p) := (hb34.cell (p := ⟨w.heap.size + 1 + 1 + 1, 0, none⟩) (by first | omega | (simp [ext_size]; try omega))).trans (by (simp (maxDischargeDepth := 8) [go_sem, World.cell?_alloc_past, ltk2, ltk3, ltk4, ltk5, ltk6, ltk7, ltk8, ltk9, *]))
          have cc34_7 : v34.cell? ⟨w.heap.size + 1 + 1 + 1, 1, none⟩ = some (.int .i64 q) := (hb34.cell (p := ⟨w.heap.size + 1 + 1 + 1, 1, none⟩) (by first | omega | (simp [ext_size]; try omega))).trans (by (simp (maxDischargeDepth := 8) [go_sem, World.cell?_alloc_past, ltk2, ltk3, ltk4, ltk5, ltk6, ltk7, ltk8, ltk9, *]))
          have zl34_0 : w.heap.size < v34.heap.size := by omega
          have zl34_1 : w.heap.size + 1 < v34.heap.size := by omega
          have zl34_2 : w.heap.size + 1 + 1 < v34.heap.size := by omega
          have zl34_3 : w.heap.size + 1 + 1 + 1 < v34.heap.size := by omega
          have hB34 : Below w.heap.size w v34 := Below.trans (by (repeat (first | with_reducible exact jB | (with_reducible refine bext ?_ _ _) | (with_reducible refine below_drewN ?_ _) | (with_reducible refine Below.drew ?_) | (with_reducible refine bal ?_ _) | (with_reducible refine bset ?_ (by first | omega | (simp <;> omega)) _)))) (hb34.mono (by first | omega | (simp [ext_size]; try omega)))
          clear hb34
          go_wp2_with fail
          with_reducible refine (A7 _).mono ?_
          rintro e v35 ⟨rfl, hb35⟩
          have zz35 := hb35.size
          try simp [ext_size] at zz35
          have cc35_0 : v35.cell? ⟨w.heap.size, 0, none⟩ = some (.int .i64 a) := (hb35.cell (p := ⟨w.heap.size, 0, none⟩) (by first | omega | (simp [ext_size]; try omega))).trans (by (simp (maxDischargeDepth := 8) [go_sem, World.cell?_alloc_past, ltk2, ltk3, ltk4, ltk5, ltk6, ltk7, ltk8, ltk9, *]))
          have cc35_1 : v35.cell? ⟨w.heap.size, 1, none⟩ = some (.int .i64 b) := (hb35.cell (p := ⟨w.heap.size, 1, none⟩) (by first | omega | (simp [ext_size]; try omega))).trans (by (simp (maxDischargeDepth := 8) [go_sem, World.cell?_alloc_past, ltk2, ltk3, ltk4, ltk5, ltk6, ltk7, ltk8, ltk9, *]))
          have cc35_2 : v35.cell? ⟨w.heap.size + 1, 0, none⟩ = some (.int .i64 c) := (hb35.cell (p := ⟨w.heap.size + 1, 0, none⟩) (by first | omega | (simp [ext_size]; try omega))).trans (by (simp (maxDischargeDepth := 8) [go_sem, World.cell?_alloc_past, ltk2, ltk3, ltk4, ltk5, ltk6, ltk7, ltk8, ltk9, *]))
          have cc35_3 : v35.cell? ⟨w.heap.size + 1, 1, none⟩ = some (.int .i64 e) := (hb35.cell (p := ⟨w.heap.size + 1, 1, none⟩) (by first | omega | (simp [ext_size]; try omega))).trans (by (simp (maxDischargeDepth := 8) [go_sem, World.cell?_alloc_past, ltk2, ltk3, ltk4, ltk5, ltk6, ltk7, ltk8, ltk9, *]))
          have cc35_4 : v35.cell? ⟨w.heap.size + 1 + 1, 0, none⟩ = some (.int .i64 n) := (hb35.cell (p := ⟨w.heap.size + 1 + 1, 0, none⟩) (by first | omega | (simp [ext_size]; try omega))).trans (by (simp (maxDischargeDepth := 8) [go_sem, World.cell?_alloc_past, ltk2, ltk3, ltk4, ltk5, ltk6, ltk7, ltk8, ltk9, *]))
          have cc35_5 : v35.cell? ⟨w.heap.size + 1 + 1, 1, none⟩ = some (.int .i64 d) := (hb35.cell (p := ⟨w.heap.size + 1 + 1, 1, none⟩) (by first | omega | (simp [ext_size]; try omega))).trans (by (simp (maxDischargeDepth := 8) [go_sem, World.cell?_alloc_past, ltk2, ltk3, ltk4, ltk5, ltk6, ltk7, ltk8, ltk9, *]))
          have cc35_6 : v35.cell? ⟨w.heap.size + 1 + 1 + 1, 0, none⟩ = some (.int .i64 p) := (hb35.cell (p := ⟨w.heap.size + 1 + 1 + 1, 0, none⟩) (by first | omega | (simp [ext_size]; try omega))).trans (by (simp (maxDischargeDepth := 8) [go_sem, World.cell?_alloc_past, ltk2, ltk3, ltk4, ltk5, ltk6, ltk7, ltk8, ltk9, *]))
          have cc35_7 : v35.cell? ⟨w.heap.size + 1 + 1 + 1, 1, none⟩ = some (.int .i64 q) := (hb35.cell (p := ⟨w.heap.size + 1 + 1 + 1, 1, none⟩) (by first | omega | (simp [ext_size]; try omega))).trans (by (simp (maxDischargeDepth := 8) [go_sem, World.cell?_alloc_past, ltk2, ltk3, ltk4, ltk5, ltk6, ltk7, ltk8, ltk9, *]))
          have zl35_0 : w.heap.size < v35.heap.size := by omega
          have zl35_1 : w.heap.size + 1 < v35.heap.size := by omega
          have zl35_2 : w.heap.size + 1 + 1 < v35.heap.size := by omega
          have zl35_3 : w.heap.size + 1 + 1 + 1 < v35.heap.size := by omega
          have hB35 : Below w.heap.size w v35 := Below.trans (by (repeat (first | with_reducible exact hB34 | (with_reducible refine bext ?_ _ _) | (with_reducible refine below_drewN ?_ _) | (with_reducible refine Below.drew ?_) | (with_reducible refine bal ?_ _) | (with_reducible refine bset ?_ (by first | omega | (simp <;> omega)) _)))) (hb35.mono (by first | omega | (simp [ext_size]; try omega)))
          clear hb35
          clear cc34_0 cc34_1 cc34_2 cc34_3 cc34_4 cc34_5 cc34_6 cc34_7 zl34_0 zl34_1 zl34_2 zl34_3 zz34 hB34
          go_wp2_with fail
          with_reducible refine (AL _).mono ?_
          rintro e v36 ⟨rfl, hb36⟩
          have zz36 := hb36.size
          try simp [ext_size] at zz36
          have cc36_0 : v36.cell? ⟨w.heap.size, 0, none⟩ = some (.int .i64 a) := (hb36.cell (p := ⟨w.heap.size, 0, none⟩) (by first | omega | (simp [ext_size]; try omega))).trans (by (simp (maxDischargeDepth := 8) [go_sem, World.cell?_alloc_past, ltk2, ltk3, ltk4, ltk5, ltk6, ltk7, ltk8, ltk9, *]))
          have cc36_1 : v36.cell? ⟨w.heap.size, 1, none⟩ = some (.int .i64 b) := (hb36.cell (p := ⟨w.heap.size, 1, none⟩) (by first | omega | (simp [ext_size]; try omega))).trans (by (simp (maxDischargeDepth := 8) [go_sem, World.cell?_alloc_past, ltk2, ltk3, ltk4, ltk5, ltk6, ltk7, ltk8, ltk9, *]))
          have cc36_2 : v36.cell? ⟨w.heap.size + 1, 0, none⟩ = some (.int .i64 c) := (hb36.cell (p := ⟨w.heap.size + 1, 0, none⟩) (by first | omega | (simp [ext_size]; try omega))).trans (by (simp (maxDischargeDepth := 8) [go_sem, World.cell?_alloc_past, ltk2, ltk3, ltk4, ltk5, ltk6, ltk7, ltk8, ltk9, *]))
          have cc36_3 : v36.cell? ⟨w.heap.size + 1, 1, none⟩ = some (.int .i64 e) := (hb36.cell (p := ⟨w.heap.size + 1, 1, none⟩) (by first | omega | (simp [ext_size]; try omega))).trans (by (simp (maxDischargeDepth := 8) [go_sem, World.cell?_alloc_past, ltk2, ltk3, ltk4, ltk5, ltk6, ltk7, ltk8, ltk9, *]))
          have cc36_4 : v36.cell? ⟨w.heap.size + 1 + 1, 0, none⟩ = some (.int .i64 n) := (hb36.cell (p := ⟨w.heap.size + 1 + 1, 0, none⟩) (by first | omega | (simp [ext_size]; try omega))).trans (by (simp (maxDischargeDepth := 8) [go_sem, World.cell?_alloc_past, ltk2, ltk3, ltk4, ltk5, ltk6, ltk7, ltk8, ltk9, *]))
          have cc36_5 : v36.cell? ⟨w.heap.size + 1 + 1, 1, none⟩ = some (.int .i64 d) := (hb36.cell (p := ⟨w.heap.size + 1 + 1, 1, none⟩) (by first | omega | (simp [ext_size]; try omega))).trans (by (simp (maxDischargeDepth := 8) [go_sem, World.cell?_alloc_past, ltk2, ltk3, ltk4, ltk5, ltk6, ltk7, ltk8, ltk9, *]))
          have cc36_6 : v36.cell? ⟨w.heap.size + 1 + 1 + 1, 0, none⟩ = some (.int .i64 p) := (hb36.cell (p := ⟨w.heap.size + 1 + 1 + 1, 0, none⟩) (by first | omega | (simp [ext_size]; try omega))).trans (by (simp (maxDischargeDepth := 8) [go_sem, World.cell?_alloc_past, ltk2, ltk3, ltk4, ltk5, ltk6, ltk7, ltk8, ltk9, *]))
          have cc36_7 : v36.cell? ⟨w.heap.size + 1 + 1 + 1, 1, none⟩ = some (.int .i64 q) := (hb36.cell (p := ⟨w.heap.size + 1 + 1 + 1, 1, none⟩) (by first | omega | (simp [ext_size]; try omega))).trans (by (simp (maxDischargeDepth := 8) [go_sem, World.cell?_alloc_past, ltk2, ltk3, ltk4, ltk5, ltk6, ltk7, ltk8, ltk9, *]))
          have zl36_0 : w.heap.size < v36.heap.size := by omega
          have zl36_1 : w.heap.size + 1 < v36.heap.size := by omega
          have zl36_2 : w.heap.size + 1 + 1 < v36.heap.size := by omega
          have zl36_3 : w.heap.size + 1 + 1 + 1 < v36.heap.size := by omega
          have hB36 : Below w.heap.size w v36 := Below.trans (by (repeat (first | with_reducible exact hB35 | (with_reducible refine bext ?_ _ _) | (with_reducible refine below_drewN ?_ _) | (with_reducible refine Below.drew ?_) | (with_reducible refine bal ?_ _) | (with_reducible refine bset ?_ (by first | omega | (simp <;> omega)) _)))) (hb36.mono (by first | omega | (simp [ext_size]; try omega)))
          clear hb36
          clear cc35_0 cc35_1 cc35_2 cc35_3 cc35_4 cc35_5 cc35_6 cc35_7 zl35_0 zl35_1 zl35_2 zl35_3 zz35 hB35
          go_wp2
          go_ret
          exact ⟨rfl, by (repeat (first | with_reducible exact hB36 | (with_reducible refine bext ?_ _ _) | (with_reducible refine below_drewN ?_ _) | (with_reducible refine Below.drew ?_) | (with_reducible refine bal ?_ _) | (with_reducible refine bset ?_ (by first | omega | (simp <;> omega)) _)))⟩
      ·
        have hA' : inB a b n d = false := by simpa using hA
        rw [hA'] at A6
        clear IA IB IC hA hA' A7 A8 A9 B1 B2 B3 B4
        go_wp2_with fail
        with_reducible refine (A6 _).mono ?_
        rintro e v37 ⟨rfl, hb37⟩
        have zz37 := hb37.size
        try simp [ext_size] at zz37
        have cc37_0 : v37.cell? ⟨w.heap.size, 0, none⟩ = some (.int .i64 a) := (hb37.cell (p := ⟨w.heap.size, 0, none⟩) (by first | omega | (simp [ext_size]; try omega))).trans (by (simp (maxDischargeDepth := 8) [go_sem, World.cell?_alloc_past, ltk2, ltk3, ltk4, ltk5, ltk6, ltk7, ltk8, ltk9, *]))
        have cc37_1 : v37.cell? ⟨w.heap.size, 1, none⟩ = some (.int .i64 b) := (hb37.cell (p := ⟨w.heap.size, 1, none⟩) (by first | omega | (simp [ext_size]; try omega))).trans (by (simp (maxDischargeDepth := 8) [go_sem, World.cell?_alloc_past, ltk2, ltk3, ltk4, ltk5, ltk6, ltk7, ltk8, ltk9, *]))
        have cc37_2 : v37.cell? ⟨w.heap.size + 1, 0, none⟩ = some (.int .i64 c) := (hb37.cell (p := ⟨w.heap.size + 1, 0, none⟩) (by first | omega | (simp [ext_size]; try omega))).trans (by (simp (maxDischargeDepth := 8) [go_sem, World.cell?_alloc_past, ltk2, ltk3, ltk4, ltk5, ltk6, ltk7, ltk8, ltk9, *]))
        have cc37_3 : v37.cell? ⟨w.heap.size + 1, 1, none⟩ = some (.int .i64 e) := (hb37.cell (p := ⟨w.heap.size + 1, 1, none⟩) (by first | omega | (simp [ext_size]; try omega))).trans (by (simp (maxDischargeDepth := 8) [go_sem, World.cell?_alloc_past, ltk2, ltk3, ltk4, ltk5, ltk6, ltk7, ltk8, ltk9, *]))
        have cc37_4 : v37.cell? ⟨w.heap.size + 1 + 1, 0, none⟩ = some (.int .i64 n) := (hb37.cell (p := ⟨w.heap.size + 1 + 1, 0, none⟩) (by first | omega | (simp [ext_size]; try omega))).trans (by (simp (maxDischargeDepth := 8) [go_sem, World.cell?_alloc_past, ltk2, ltk3, ltk4, ltk5, ltk6, ltk7, ltk8, ltk9, *]))
        have cc37_5 : v37.cell? ⟨w.heap.size + 1 + 1, 1, none⟩ = some (.int .i64 d) := (hb37.cell (p := ⟨w.heap.size + 1 + 1, 1, none⟩) (by first | omega | (simp [ext_size]; try omega))).trans (by (simp (maxDischargeDepth := 8) [go_sem, World.cell?_alloc_past, ltk2, ltk3, ltk4, ltk5, ltk6, ltk7, ltk8, ltk9, *]))
        have cc37_6 : v37.cell? ⟨w.heap.size + 1 + 1 + 1, 0, none⟩ = some (.int .i64 p) := (hb37.cell (p := ⟨w.heap.size + 1 + 1 + 1, 0, none⟩) (by first | omega | (simp [ext_size]; try omega))).trans (by (simp (maxDischargeDepth := 8) [go_sem, World.cell?_alloc_past, ltk2, ltk3, ltk4, ltk5, ltk6, ltk7, ltk8, ltk9, *]))
        have cc37_7 : v37.cell? ⟨w.heap.size + 1 + 1 + 1, 1, none⟩ = some (.int .i64 q) := (hb37.cell (p := ⟨w.heap.size + 1 + 1 + 1, 1, none⟩) (by first | omega | (simp [ext_size]; try omega))).trans (by (simp (maxDischargeDepth := 8) [go_sem, World.cell?_alloc_past, ltk2, ltk3, ltk4, ltk5, ltk6, ltk7, ltk8, ltk9, *]))
        have zl37_0 : w.heap.size < v37.heap.size := by omega
        have zl37_1 : w.heap.size + 1 < v37.heap.size := by omega
        have zl37_2 : w.heap.size + 1 + 1 < v37.heap.size := by omega
        have zl37_3 : w.heap.size + 1 + 1 + 1 < v37.heap.size := by omega
        have hB37 : Below w.heap.size w v37 := Below.trans (by (repeat (first | with_reducible exact jB | (with_reducible refine bext ?_ _ _) | (with_reducible refine below_drewN ?_ _) | (with_reducible refine Below.drew ?_) | (with_reducible refine bal ?_ _) | (with_reducible refine bset ?_ (by first | omega | (simp <;> omega)) _)))) (hb37.mono (by first | omega | (simp [ext_size]; try omega)))
        clear hb37
        go_wp2_with fail
        with_reducible refine (AL _).mono ?_
        rintro e v38 ⟨rfl, hb38⟩
        have zz38 := hb38.size
        try simp [ext_size] at zz38
        have cc38_0 : v38.cell? ⟨w.heap.size, 0, none⟩ = some (.int .i64 a) := (hb38.cell (p := ⟨w.heap.size, 0, none⟩) (by first | omega | (simp [ext_size]; try omega))).trans (by (simp (maxDischargeDepth := 8) [go_sem, World.cell?_alloc_past, ltk2, ltk3, ltk4, ltk5, ltk6, ltk7, ltk8, ltk9, *]))
        have cc38_1 : v38.cell? ⟨w.heap.size, 1, none⟩ = some (.int .i64 b) := (hb38.cell (p := ⟨w.heap.size, 1, none⟩) (by first | omega | (simp [ext_size]; try omega))).trans (by (simp (maxDischargeDepth := 8) [go_sem, World.cell?_alloc_past, ltk2, ltk3, ltk4, ltk5, ltk6, ltk7, ltk8, ltk9, *]))
        have cc38_2 : v38.cell? ⟨w.heap.size + 1, 0, none⟩ = some (.int .i64 c) := (hb38.cell (p := ⟨w.heap.size + 1, 0, none⟩) (by first | omega | (simp [ext_size]; try omega))).trans (by (simp (maxDischargeDepth := 8) [go_sem, World.cell?_alloc_past, ltk2, ltk3, ltk4, ltk5, ltk6, ltk7, ltk8, ltk9, *]))
        have cc38_3 : v38.cell? ⟨w.heap.size + 1, 1, none⟩ = some (.int .i64 e) := (hb38.cell (p := ⟨w.heap.size + 1, 1, none⟩) (by first | omega | (simp [ext_size]; try omega))).trans (by (simp (maxDischargeDepth := 8) [go_sem, World.cell?_alloc_past, ltk2, ltk3, ltk4, ltk5, ltk6, ltk7, ltk8, ltk9, *]))
        have cc38_4 : v38.cell? ⟨w.heap.size + 1 + 1, 0, none⟩ = some (.int .i64 n) := (hb38.cell (p := ⟨w.heap.size + 1 + 1, 0, none⟩) (by first | omega | (simp [ext_size]; try omega))).trans (by (simp (maxDischargeDepth := 8) [go_sem, World.cell?_alloc_past, ltk2, ltk3, ltk4, ltk5, ltk6, ltk7, ltk8, ltk9, *]))
        have cc38_5 : v38.cell? ⟨w.heap.size + 1 + 1, 1, none⟩ = some (.int .i64 d) := (hb38.cell (p := ⟨w.heap.size + 1 + 1, 1, none⟩) (by first | omega | (simp [ext_size]; try omega))).trans (by (simp (maxDischargeDepth := 8) [go_sem, World.cell?_alloc_past, ltk2, ltk3, ltk4, ltk5, ltk6, ltk7, ltk8, ltk9, *]))
        have cc38_6 : v38.cell? ⟨w.heap.size + 1 + 1 + 1, 0, none⟩ = some (.int .i64 p) := (hb38.cell (p := ⟨w.heap.size + 1 + 1 + 1, 0, none⟩) (by first | omega | (simp [ext_size]; try omega))).trans (by (simp (maxDischargeDepth := 8) [go_sem, World.cell?_alloc_past, ltk2, ltk3, ltk4, ltk5, ltk6, ltk7, ltk8, ltk9, *]))
        have cc38_7 : v38.cell? ⟨w.heap.size + 1 + 1 + 1, 1, none⟩ = some (.int .i64 q) := (hb38.cell (p := ⟨w.heap.size + 1 + 1 + 1, 1, none⟩) (by first | omega | (simp [ext_size]; try omega))).trans (by (simp (maxDischargeDepth := 8) [go_sem, World.cell?_alloc_past, ltk2, ltk3, ltk4, ltk5, ltk6, ltk7, ltk8, ltk9, *]))
        have zl38_0 : w.heap.size < v38.heap.size := by omega
        have zl38_1 : w.heap.size + 1 < v38.heap.size := by omega
        have zl38_2 : w.heap.size + 1 + 1 < v38.heap.size := by omega
        have zl38_3 : w.heap.size + 1 + 1 + 1 < v38.heap.size := by omega
        have hB38 : Below w.heap.size w v38 := Below.trans (by (repeat (first | with_reducible exact hB37 | (with_reducible refine bext ?_ _ _) | (with_reducible refine below_drewN ?_ _) | (with_reducible refine Below.drew ?_) | (with_reducible refine bal ?_ _) | (with_reducible refine bset ?_ (by first | omega | (simp <;> omega)) _)))) (hb38.mono (by first | omega | (simp [ext_size]; try omega)))
        clear hb38
        clear cc37_0 cc37_1 cc37_2 cc37_3 cc37_4 cc37_5 cc37_6 cc37_7 zl37_0 zl37_1 zl37_2 zl37_3 zz37 hB37
        go_wp2
        go_ret
        exact ⟨rfl, by (repeat (first | with_reducible exact hB38 | (with_reducible refine bext ?_ _ _) | (with_reducible refine below_drewN ?_ _) | (with_reducible refine Below.drew ?_) | (with_reducible refine bal ?_ _) | (with_reducible refine bset ?_ (by first | omega | (simp <;> omega)) _)))⟩
end Go.Proofs.Ytilcgbloangcmaa
