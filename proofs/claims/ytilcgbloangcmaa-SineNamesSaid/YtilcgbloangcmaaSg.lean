/-
  The reference: which enclosure has a fraction.
-/
import Derived.Test.YtilcgbloangcmaaSf
namespace Go.Proofs.Ytilcgbloangcmaa
open Go.RowKit
set_option linter.unusedVariables false
set_option linter.unusedSimpArgs false

set_option maxHeartbeats 800000 in
theorem ref5_Has (a b n d : Int) (a1 : -9223372036854775808 ≤ n) (a2 : n ≤ 9223372036854775807) (a3 : -9223372036854775808 ≤ d) (a4 : d ≤ 9223372036854775807) (w : World) :
    Calls Try.prog 27 #[.agg #[.int .i64 a, .int .i64 b], .agg #[.int .i64 n, .int .i64 d]] w fun e w' => e = .returned (.tuple #[.bool (haV a b n d), .int .i64 (haE a b n d)]) ∧ Below w.heap.size w w' := by
  have A1 := fun w => ref5_Valid a b w
  have A2 := fun w => ref_Check n d a1 a2 a3 a4 w
  by_cases hv : spV a b = true
  · rw [hv] at A1
    obtain ⟨k1, k2, k3⟩ := spV_out hv
    by_cases ho : okF n d = true
    · have hc : chkI n d = 0 := by rw [chkI, if_pos ho]
      rw [hc] at A2
      have A3 := fun w => ref5_In a b n d k2 (by omega) (by omega) k3 ho w
      have r1 : haE a b n d = 0 := by rw [haE, if_pos ⟨hv, ho⟩]
      have r2 : haV a b n d = inB a b n d := by rw [haV, hv, ho]; simp
      rw [r1, r2]
      generalize inB a b n d = q at *
      clear r1 r2 hv ho hc
      have dAl := dAl; have dSt := dSt; have xC := ext_cell; have xF := ext_frozen; have xS := ext_set; have xN := ext_drewN; have xD := ext_drew; have xL := ext_lt; have xE := ext_ne; have xG := ext_nr; have xX := ext_ext; have xL1 := ext_lt1; have xL2 := ext_lt2; have xL3 := ext_lt3; have xM0 := ext_le0; have xM1 := ext_le1; have xM2 := ext_le2
      go_enter Try.func27, Try.ntmps27
      go_wp2_with fail
      refine (A1 _).mono ?_
      rintro e v1 ⟨rfl, hb1⟩
      have zz1 := hb1.size
      try simp [ext_size] at zz1
      have cc1_0 : v1.cell? ⟨w.heap.size, 0, none⟩ = some (.int .i64 a) := (hb1.cell (p := ⟨w.heap.size, 0, none⟩) (by first | omega | (simp [ext_size]; try omega))).trans (by (simp (maxDischargeDepth := 8) [go_sem, World.cell?_alloc_past, ltk2, ltk3, ltk4, ltk5, ltk6, ltk7, ltk8, ltk9, *]))
      have cc1_1 : v1.cell? ⟨w.heap.size, 1, none⟩ = some (.int .i64 b) := (hb1.cell (p := ⟨w.heap.size, 1, none⟩) (by first | omega | (simp [ext_size]; try omega))).trans (by (simp (maxDischargeDepth := 8) [go_sem, World.cell?_alloc_past, ltk2, ltk3, ltk4, ltk5, ltk6, ltk7, ltk8, ltk9, *]))
      have cc1_2 : v1.cell? ⟨w.heap.size + 1, 0, none⟩ = some (.int .i64 n) := (hb1.cell (p := ⟨w.heap.size + 1, 0, none⟩) (by first | omega | (simp [ext_size]; try omega))).trans (by (simp (maxDischargeDepth := 8) [go_sem, World.cell?_alloc_past, ltk2, ltk3, ltk4, ltk5, ltk6, ltk7, ltk8, ltk9, *]))
      have cc1_3 : v1.cell? ⟨w.heap.size + 1, 1, none⟩ = some (.int .i64 d) := (hb1.cell (p := ⟨w.heap.size + 1, 1, none⟩) (by first | omega | (simp [ext_size]; try omega))).trans (by (simp (maxDischargeDepth := 8) [go_sem, World.cell?_alloc_past, ltk2, ltk3, ltk4, ltk5, ltk6, ltk7, ltk8, ltk9, *]))
      have zl1_0 : w.heap.size < v1.heap.size := by omega
      have zl1_1 : w.heap.size + 1 < v1.heap.size := by omega
      have hB1 : Below w.heap.size w v1 := Below.trans (by (repeat (first | with_reducible exact b0 _ | (with_reducible refine bext ?_ _ _) | (with_reducible refine below_drewN ?_ _) | (with_reducible refine Below.drew ?_) | (with_reducible refine bal ?_ _)))) (hb1.mono (by first | omega | (simp [ext_size]; try omega)))
      clear hb1
      go_wp2_with fail
      refine (A2 _).mono ?_
      rintro e v2 ⟨rfl, hb2⟩
      have zz2 := hb2.size
      try simp [ext_size] at zz2
      have cc2_0 : v2.cell? ⟨w.heap.size, 0, none⟩ = some (.int .i64 a) := (hb2.cell (p := ⟨w.heap.size, 0, none⟩) (by first | omega | (simp [ext_size]; try omega))).trans (by (simp (maxDischargeDepth := 8) [go_sem, World.cell?_alloc_past, ltk2, ltk3, ltk4, ltk5, ltk6, ltk7, ltk8, ltk9, *]))
      have cc2_1 : v2.cell? ⟨w.heap.size, 1, none⟩ = some (.int .i64 b) := (hb2.cell (p := ⟨w.heap.size, 1, none⟩) (by first | omega | (simp [ext_size]; try omega))).trans (by (simp (maxDischargeDepth := 8) [go_sem, World.cell?_alloc_past, ltk2, ltk3, ltk4, ltk5, ltk6, ltk7, ltk8, ltk9, *]))
      have cc2_2 : v2.cell? ⟨w.heap.size + 1, 0, none⟩ = some (.int .i64 n) := (hb2.cell (p := ⟨w.heap.size + 1, 0, none⟩) (by first | omega | (simp [ext_size]; try omega))).trans (by (simp (maxDischargeDepth := 8) [go_sem, World.cell?_alloc_past, ltk2, ltk3, ltk4, ltk5, ltk6, ltk7, ltk8, ltk9, *]))
      have cc2_3 : v2.cell? ⟨w.heap.size + 1, 1, none⟩ = some (.int .i64 d) := (hb2.cell (p := ⟨w.heap.size + 1, 1, none⟩) (by first | omega | (simp [ext_size]; try omega))).trans (by (simp (maxDischargeDepth := 8) [go_sem, World.cell?_alloc_past, ltk2, ltk3, ltk4, ltk5, ltk6, ltk7, ltk8, ltk9, *]))
      have zl2_0 : w.heap.size < v2.heap.size := by omega
      have zl2_1 : w.heap.size + 1 < v2.heap.size := by omega
      have hB2 : Below w.heap.size w v2 := Below.trans (by (repeat (first | with_reducible exact hB1 | (with_reducible refine bext ?_ _ _) | (with_reducible refine below_drewN ?_ _) | (with_reducible refine Below.drew ?_) | (with_reducible refine bal ?_ _) | (with_reducible refine bset ?_ (by first | omega | (simp <;> omega)) _)))) (hb2.mono (by first | omega | (simp [ext_size]; try omega)))
      clear hb2
      go_wp2_with fail
      refine (A3 _).mono ?_
      rintro e v3 ⟨rfl, hb3⟩
      have zz3 := hb3.size
      try simp [ext_size] at zz3
      have hB3 : Below w.heap.size w v3 := Below.trans (by (repeat (first | with_reducible exact hB2 | (with_reducible refine bext ?_ _ _) | (with_reducible refine below_drewN ?_ _) | (with_reducible refine Below.drew ?_) | (with_reducible refine bal ?_ _) | (with_reducible refine bset ?_ (by first | omega | (simp <;> omega)) _)))) (hb3.mono (by first | omega | (simp [ext_size]; try omega)))
      clear hb3
      go_wp2
      go_ret2
      exact ⟨rfl, by (repeat (first | with_reducible exact hB3 | (with_reducible refine bext ?_ _ _) | (with_reducible refine below_drewN ?_ _) | (with_reducible refine Below.drew ?_) | (with_reducible refine bal ?_ _) | (with_reducible refine bset ?_ (by first | omega | (simp <;> omega)) _)))⟩
    · have hc : chkI n d = 8 := by rw [chkI, if_neg ho]
      rw [hc] at A2
      have r4 : haE a b n d = 8 := by rw [haE, if_neg (fun h => ho h.2)]
      have r5 : haV a b n d = false := by
        have : okF n d = false := by simpa using ho
        rw [haV, this]; simp
      rw [r4, r5]
      clear r4 r5 hv ho hc
      have dAl := dAl; have dSt := dSt; have xC := ext_cell; have xF := ext_frozen; have xS := ext_set; have xN := ext_drewN; have xD := ext_drew; have xL := ext_lt; have xE := ext_ne; have xG := ext_nr; have xX := ext_ext; have xL1 := ext_lt1; have xL2 := ext_lt2; have xL3 := ext_lt3; have xM0 := ext_le0; have xM1 := ext_le1; have xM2 := ext_le2
      go_enter Try.func27, Try.ntmps27
      go_wp2_with fail
      refine (A1 _).mono ?_
      rintro e v1 ⟨rfl, hb1⟩
      have zz1 := hb1.size
      try simp [ext_size] at zz1
      have cc1_0 : v1.cell? ⟨w.heap.size, 0, none⟩ = some (.int .i64 a) := (hb1.cell (p := ⟨w.heap.size, 0, none⟩) (by first | omega | (simp [ext_size]; try omega))).trans (by (simp (maxDischargeDepth := 8) [go_sem, World.cell?_alloc_past, ltk2, ltk3, ltk4, ltk5, ltk6, ltk7, ltk8, ltk9, *]))
      have cc1_1 : v1.cell? ⟨w.heap.size, 1, none⟩ = some (.int .i64 b) := (hb1.cell (p := ⟨w.heap.size, 1, none⟩) (by first | omega | (simp [ext_size]; try omega))).trans (by (simp (maxDischargeDepth := 8) [go_sem, World.cell?_alloc_past, ltk2, ltk3, ltk4, ltk5, ltk6, ltk7, ltk8, ltk9, *]))
      have cc1_2 : v1.cell? ⟨w.heap.size + 1, 0, none⟩ = some (.int .i64 n) := (hb1.cell (p := ⟨w.heap.size + 1, 0, none⟩) (by first | omega | (simp [ext_size]; try omega))).trans (by (simp (maxDischargeDepth := 8) [go_sem, World.cell?_alloc_past, ltk2, ltk3, ltk4, ltk5, ltk6, ltk7, ltk8, ltk9, *]))
      have cc1_3 : v1.cell? ⟨w.heap.size + 1, 1, none⟩ = some (.int .i64 d) := (hb1.cell (p := ⟨w.heap.size + 1, 1, none⟩) (by first | omega | (simp [ext_size]; try omega))).trans (by (simp (maxDischargeDepth := 8) [go_sem, World.cell?_alloc_past, ltk2, ltk3, ltk4, ltk5, ltk6, ltk7, ltk8, ltk9, *]))
      have zl1_0 : w.heap.size < v1.heap.size := by omega
      have zl1_1 : w.heap.size + 1 < v1.heap.size := by omega
      have hB1 : Below w.heap.size w v1 := Below.trans (by (repeat (first | with_reducible exact b0 _ | (with_reducible refine bext ?_ _ _) | (with_reducible refine below_drewN ?_ _) | (with_reducible refine Below.drew ?_) | (with_reducible refine bal ?_ _)))) (hb1.mono (by first | omega | (simp [ext_size]; try omega)))
      clear hb1
      go_wp2_with fail
      refine (A2 _).mono ?_
      rintro e w1c ⟨rfl, hb1c⟩
      obtain ⟨l1c, d1c, rfl⟩ := toExt hb1c
      clear hb1c
      go_wp2
      go_ret2
      exact ⟨rfl, by (repeat (first | with_reducible exact hB1 | (with_reducible refine bext ?_ _ _) | (with_reducible refine below_drewN ?_ _) | (with_reducible refine Below.drew ?_) | (with_reducible refine bal ?_ _) | (with_reducible refine bset ?_ (by first | omega | (simp <;> omega)) _)))⟩
  · have hv' : spV a b = false := by simpa using hv
    rw [hv'] at A1
    have r4 : haE a b n d = 8 := by rw [haE, if_neg (fun h => hv h.1)]
    have r5 : haV a b n d = false := by rw [haV, hv']; rfl
    rw [r4, r5]
    clear r4 r5 hv hv' A2
    have dAl := dAl; have dSt := dSt; have xC := ext_cell; have xF := ext_frozen; have xS := ext_set; have xN := ext_drewN; have xD := ext_drew; have xL := ext_lt; have xE := ext_ne; have xG := ext_nr; have xX := ext_ext; have xL1 := ext_lt1; have xL2 := ext_lt2; have xL3 := ext_lt3; have xM0 := ext_le0; have xM1 := ext_le1; have xM2 := ext_le2
    go_enter Try.func27, Try.ntmps27
    go_wp2_with fail
    refine (A1 _).mono ?_
    rintro e w2c ⟨rfl, hb2c⟩
    obtain ⟨l2c, d2c, rfl⟩ := toExt hb2c
    clear hb2c
    go_wp2
    go_ret2
    exact ⟨rfl, by (repeat (first | with_reducible exact b0 _ | (with_reducible refine bext ?_ _ _) | (with_reducible refine below_drewN ?_ _) | (with_reducible refine Below.drew ?_) | (with_reducible refine bal ?_ _)))⟩

set_option maxHeartbeats 400000 in
theorem law5_is (a b e lo hi : Int) (w : World) :
    Calls Try.prog 19 #[.agg #[.int .i64 a, .int .i64 b], .int .i64 e, .int .i64 lo, .int .i64 hi] w fun x w' => x = .returned (.bool (decide (e = 0 ∧ a = lo ∧ b = hi))) ∧ Below w.heap.size w w' := by
  have dAl := dAl; have dSt := dSt; have xC := ext_cell; have xF := ext_frozen; have xS := ext_set; have xN := ext_drewN; have xD := ext_drew; have xL := ext_lt; have xE := ext_ne; have xG := ext_nr; have xX := ext_ext; have xL1 := ext_lt1; have xL2 := ext_lt2; have xL3 := ext_lt3; have xM0 := ext_le0; have xM1 := ext_le1; have xM2 := ext_le2
  go_enter Try.func19, Try.ntmps19
  go_wp2
  all_goals go_ret
  all_goals exact ⟨ret_sb (by simp [*]), by (repeat (first | with_reducible exact b0 _ | (with_reducible refine bext ?_ _ _) | (with_reducible refine below_drewN ?_ _) | (with_reducible refine Below.drew ?_) | (with_reducible refine bal ?_ _)))⟩

end Go.Proofs.Ytilcgbloangcmaa
