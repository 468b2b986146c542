/-
  Which enclosure has a fraction, by the reference; what the laws' own small functions do.
-/
import Derived.Test.YtilcgbloangcmaaSe
namespace Go.Proofs.Ytilcgbloangcmaa
open Go.RowKit
set_option linter.unusedVariables false
set_option linter.unusedSimpArgs false

theorem absI_div5 (a g : Int) (hg : 0 < g) (h : g ∣ a) : absI (a / g) = absI a / g := by
  obtain ⟨k, rfl⟩ := h
  rw [Int.mul_ediv_cancel_left _ (by omega)]
  unfold absI
  rw [Int.natAbs_mul, Int.natCast_mul, show ((g.natAbs : Nat) : Int) = g by omega, Int.mul_ediv_cancel_left _ (by omega)]
/-- A number of millionths as a fraction. -/
theorem mil (a : Int) (h0 : -3000000000 ≤ a) (h1 : a ≤ 3000000000) : ∃ g, 0 < g ∧ maN a 1000000 * g = a ∧ maD a 1000000 * g = 1000000 ∧ 1 ≤ maD a 1000000 ∧ maD a 1000000 ≤ 1000000 ∧ -3000000000 ≤ maN a 1000000 ∧ maN a 1000000 ≤ 3000000000 := by
  have hg : 0 < gcdI a 1000000 := gcdI_pos a 1000000 (by omega)
  have g1 := gcdI_dvd_left a 1000000
  have g2 := gcdI_dvd_right a 1000000
  have hl := gcdI_le a 1000000 (by omega)
  have ha := absI_div5 a _ hg g1
  have hb := absI_div5 1000000 _ hg g2
  have e0 : absI 1000000 = 1000000 := by unfold absI; omega
  have b1 := div_abs a (gcdI a 1000000) 3000000000 hg h0 h1
  have b2 := div_abs 1000000 (gcdI a 1000000) 1000000 hg (by omega) (by omega)
  have b3 : 1 ≤ 1000000 / gcdI a 1000000 := Int.le_ediv_of_mul_le hg (by omega)
  have c1 := absI_le (a / gcdI a 1000000) (by omega) (by omega)
  have hs : sgB a 1000000 = decide (a < 0) := by unfold sgB; simp
  rw [e0] at hb
  have n1 : maN a 1000000 = a / gcdI a 1000000 := by
    rw [maN, if_neg (by omega), e0, ← ha, bdN, if_pos ⟨c1, by omega⟩, hs]
    by_cases hn : a < 0
    · have k : a / gcdI a 1000000 < 0 := Int.ediv_neg_of_neg_of_pos hn hg
      simp only [hn, decide_true, sv, if_true]; unfold absI; omega
    · have k : 0 ≤ a / gcdI a 1000000 := Int.ediv_nonneg (by omega) (by omega)
      simp only [hn, decide_false, sv]; unfold absI; simp; omega
  have n2 : maD a 1000000 = 1000000 / gcdI a 1000000 := by
    rw [maD, if_neg (by omega), e0, ← ha, bdD, if_pos ⟨c1, by omega⟩]
    simp [sv]
  refine ⟨gcdI a 1000000, hg, ?_, ?_, ?_, ?_, ?_, ?_⟩
  · rw [n1]; exact Int.ediv_mul_cancel g1
  · rw [n2]; exact Int.ediv_mul_cancel g2
  all_goals first | (rw [n2]; omega) | (rw [n1]; omega)
theorem mil_lt (a n d N D g : Int) (hg : 0 < g) (h1 : N * g = a) (h2 : D * g = 1000000) : (decide (n * D < N * d)) = decide (n * 1000000 < a * d) ∧ (decide (N * d < n * D)) = decide (a * d < n * 1000000) := by
  have e1 : n * 1000000 = (n * D) * g := by rw [← h2]; grind
  have e2 : a * d = (N * d) * g := by rw [← h1]; grind
  rw [e1, e2]
  constructor
  · rw [decide_eq_decide]; exact ⟨fun h => Int.mul_lt_mul_of_pos_right h hg, fun h => Int.lt_of_mul_lt_mul_right h (by omega)⟩
  · rw [decide_eq_decide]; exact ⟨fun h => Int.mul_lt_mul_of_pos_right h hg, fun h => Int.lt_of_mul_lt_mul_right h (by omega)⟩

set_option maxHeartbeats 800000 in
theorem ref5_In (a b n d : Int) (a1 : -3000000000 ≤ a) (a2 : a ≤ 3000000000) (b1 : -3000000000 ≤ b) (b2 : b ≤ 3000000000) (ho : okF n d = true) (w : World) :
    Calls Try.prog 33 #[.agg #[.int .i64 a, .int .i64 b], .agg #[.int .i64 n, .int .i64 d]] w fun e w' => e = .returned (.bool (inB a b n d)) ∧ Below w.heap.size w w' := by
  obtain ⟨o1, o2, o3, o4, o5⟩ := okF_out ho
  obtain ⟨g, g0, g1, g2, g3, g4, g5, g6⟩ := mil a a1 a2
  obtain ⟨g', h0, h1, h2, h3, h4, h5, h6⟩ := mil b b1 b2
  have A1 := fun w => ref_Make a 1000000 (by omega) (by omega) (by omega) (by omega) w
  have A2 := fun w => ref_Make b 1000000 (by omega) (by omega) (by omega) (by omega) w
  have A3 := fun w => ref_Less n d (maN a 1000000) (maD a 1000000) o3 o4 o1 o2 (by omega) (by omega) (by omega) (by omega) w
  have A4 := fun w => ref_Less (maN b 1000000) (maD b 1000000) n d (by omega) (by omega) (by omega) (by omega) o3 o4 o1 o2 w
  have e1 := (mil_lt a n d _ _ g g0 g1 g2).1
  have e2 := (mil_lt b n d _ _ g' h0 h1 h2).2
  rw [e1] at A3
  rw [e2] at A4
  have hr : inB a b n d = (!decide (n * 1000000 < a * d) && !decide (b * d < n * 1000000)) := by
    rw [inB, Bool.eq_iff_iff]; simp
  rw [hr]
  clear hr e1 e2 g1 g2 h1 h2
  generalize decide (n * 1000000 < a * d) = p at *
  generalize decide (b * d < n * 1000000) = q at *
  generalize maN a 1000000 = x at *
  generalize maD a 1000000 = y at *
  generalize maE a 1000000 = z at *
  generalize maN b 1000000 = x' at *
  generalize maD b 1000000 = y' at *
  generalize maE b 1000000 = z' at *
  clear g3 g4 g5 g6 h3 h4 h5 h6 a1 a2 b1 b2 o1 o2 o3 o4 o5 ho
  cases p
  all_goals
    have dAl := dAl; have dSt := dSt; have xC := ext_cell; have xF := ext_frozen; have xS := ext_set; have xN := ext_drewN; have xD := ext_drew; have xL := ext_lt; have xE := ext_ne; have xG := ext_nr; have xX := ext_ext; have xL1 := ext_lt1; have xL2 := ext_lt2; have xL3 := ext_lt3; have xM0 := ext_le0; have xM1 := ext_le1; have xM2 := ext_le2
    go_enter Try.func33, Try.ntmps33
    go_wp2_with fail
    refine (A1 _).mono ?_
    rintro e v1 ⟨rfl, hb1⟩
    have zz1 := hb1.size
    simp [ext_size] at zz1
    have cc1_0 : v1.cell? ⟨w.heap.size, 0, none⟩ = some (.int .i64 a) := (hb1.cell (p := ⟨w.heap.size, 0, none⟩) (by simp [ext_size]; try omega)).trans (by (simp (maxDischargeDepth := 8) [go_sem, World.cell?_alloc_past, ltk2, ltk3, ltk4, ltk5, ltk6, ltk7, ltk8, ltk9, *]))
    have cc1_1 : v1.cell? ⟨w.heap.size, 1, none⟩ = some (.int .i64 b) := (hb1.cell (p := ⟨w.heap.size, 1, none⟩) (by simp [ext_size]; try omega)).trans (by (simp (maxDischargeDepth := 8) [go_sem, World.cell?_alloc_past, ltk2, ltk3, ltk4, ltk5, ltk6, ltk7, ltk8, ltk9, *]))
    have cc1_2 : v1.cell? ⟨w.heap.size + 1, 0, none⟩ = some (.int .i64 n) := (hb1.cell (p := ⟨w.heap.size + 1, 0, none⟩) (by simp [ext_size]; try omega)).trans (by (simp (maxDischargeDepth := 8) [go_sem, World.cell?_alloc_past, ltk2, ltk3, ltk4, ltk5, ltk6, ltk7, ltk8, ltk9, *]))
    have cc1_3 : v1.cell? ⟨w.heap.size + 1, 1, none⟩ = some (.int .i64 d) := (hb1.cell (p := ⟨w.heap.size + 1, 1, none⟩) (by simp [ext_size]; try omega)).trans (by (simp (maxDischargeDepth := 8) [go_sem, World.cell?_alloc_past, ltk2, ltk3, ltk4, ltk5, ltk6, ltk7, ltk8, ltk9, *]))
    have zl1_0 : w.heap.size < v1.heap.size := by omega
    have zl1_1 : w.heap.size + 1 < v1.heap.size := by omega
    have hB1 : Below w.heap.size w v1 := Below.trans (by (repeat (first | with_reducible exact b0 _ | (with_reducible refine bext ?_ _ _) | (with_reducible refine below_drewN ?_ _) | (with_reducible refine Below.drew ?_) | (with_reducible refine bal ?_ _)))) (hb1.mono (by simp [ext_size]; try omega))
    clear hb1
    go_wp2_with fail
    refine (A2 _).mono ?_
    rintro e v2 ⟨rfl, hb2⟩
    have zz2 := hb2.size
    simp [ext_size] at zz2
    have cc2_0 : v2.cell? ⟨w.heap.size, 0, none⟩ = some (.int .i64 a) := (hb2.cell (p := ⟨w.heap.size, 0, none⟩) (by simp [ext_size]; try omega)).trans (by (simp (maxDischargeDepth := 8) [go_sem, World.cell?_alloc_past, ltk2, ltk3, ltk4, ltk5, ltk6, ltk7, ltk8, ltk9, *]))
    have cc2_1 : v2.cell? ⟨w.heap.size, 1, none⟩ = some (.int .i64 b) := (hb2.cell (p := ⟨w.heap.size, 1, none⟩) (by simp [ext_size]; try omega)).trans (by (simp (maxDischargeDepth := 8) [go_sem, World.cell?_alloc_past, ltk2, ltk3, ltk4, ltk5, ltk6, ltk7, ltk8, ltk9, *]))
    have cc2_2 : v2.cell? ⟨w.heap.size + 1, 0, none⟩ = some (.int .i64 n) := (hb2.cell (p := ⟨w.heap.size + 1, 0, none⟩) (by simp [ext_size]; try omega)).trans (by (simp (maxDischargeDepth := 8) [go_sem, World.cell?_alloc_past, ltk2, ltk3, ltk4, ltk5, ltk6, ltk7, ltk8, ltk9, *]))
    have cc2_3 : v2.cell? ⟨w.heap.size + 1, 1, none⟩ = some (.int .i64 d) := (hb2.cell (p := ⟨w.heap.size + 1, 1, none⟩) (by simp [ext_size]; try omega)).trans (by (simp (maxDischargeDepth := 8) [go_sem, World.cell?_alloc_past, ltk2, ltk3, ltk4, ltk5, ltk6, ltk7, ltk8, ltk9, *]))
    have cc2_4 : v2.cell? ⟨v1.heap.size, 0, none⟩ = some (.int .i64 x) := (hb2.cell (p := ⟨v1.heap.size, 0, none⟩) (by simp [ext_size]; try omega)).trans (by (simp (maxDischargeDepth := 8) [go_sem, World.cell?_alloc_past, ltk2, ltk3, ltk4, ltk5, ltk6, ltk7, ltk8, ltk9, *]))
    have cc2_5 : v2.cell? ⟨v1.heap.size, 1, none⟩ = some (.int .i64 y) := (hb2.cell (p := ⟨v1.heap.size, 1, none⟩) (by simp [ext_size]; try omega)).trans (by (simp (maxDischargeDepth := 8) [go_sem, World.cell?_alloc_past, ltk2, ltk3, ltk4, ltk5, ltk6, ltk7, ltk8, ltk9, *]))
    have zl2_0 : w.heap.size < v2.heap.size := by omega
    have zl2_1 : w.heap.size + 1 < v2.heap.size := by omega
    have zl2_2 : v1.heap.size < v2.heap.size := by omega
    have hB2 : Below w.heap.size w v2 := Below.trans (by (repeat (first | with_reducible exact hB1 | (with_reducible refine bext ?_ _ _) | (with_reducible refine below_drewN ?_ _) | (with_reducible refine Below.drew ?_) | (with_reducible refine bal ?_ _) | (with_reducible refine bset ?_ (by first | omega | (simp <;> omega)) _)))) (hb2.mono (by simp [ext_size]; try omega))
    clear hb2
    go_wp2_with fail
    refine (A3 _).mono ?_
    rintro e w1c ⟨rfl, hb1c⟩
    obtain ⟨l1c, d1c, rfl⟩ := toExt hb1c
    clear hb1c
    first
    | (go_wp2_with fail; refine (A4 _).mono ?_; rintro e w6 ⟨rfl, hb6⟩; obtain ⟨l6, d6, rfl⟩ := toExt hb6; clear hb6; go_wp2; go_ret; exact ⟨by simp, by (repeat (first | with_reducible exact hB2 | (with_reducible refine bext ?_ _ _) | (with_reducible refine below_drewN ?_ _) | (with_reducible refine Below.drew ?_) | (with_reducible refine bal ?_ _) | (with_reducible refine bset ?_ (by first | omega | (simp <;> omega)) _)))⟩)
    | (go_wp2; go_ret; exact ⟨by simp, by (repeat (first | with_reducible exact hB2 | (with_reducible refine bext ?_ _ _) | (with_reducible refine below_drewN ?_ _) | (with_reducible refine Below.drew ?_) | (with_reducible refine bal ?_ _) | (with_reducible refine bset ?_ (by first | omega | (simp <;> omega)) _)))⟩)
end Go.Proofs.Ytilcgbloangcmaa
