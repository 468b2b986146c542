/-
  The nearest fraction of the reference, whole.
-/
import Derived.Test.YtbckjccbihnlnaaFrn
namespace Go.Proofs.Ytbckjccbihnlnaa
open Go.RowKit
set_option linter.unusedVariables false
set_option linter.unusedSimpArgs false

set_option maxRecDepth 100000 in
set_option maxHeartbeats 1600000 in
theorem ref_Near (N D n : Int) (a1 : -9223372036854775808 ≤ N) (a2 : N ≤ 9223372036854775807) (a3 : -9223372036854775808 ≤ D) (a4 : D ≤ 9223372036854775807) (a5 : -9223372036854775808 ≤ n) (a6 : n ≤ 9223372036854775807) (w : World) :
    Calls Try.prog 18 #[.agg #[.int .i64 N, .int .i64 D], .int .i64 n] w fun e w' =>
      ∃ P Q E : Int, nearIs N D n P Q E ∧ e = .returned (.tuple #[.agg #[.int .i64 P, .int .i64 Q], .int .i64 E]) ∧ Below w.heap.size w w' := by
  have A1 := fun w => ref_Check N D a1 a2 a3 a4 w
  by_cases ho : okF N D = true
  · have hc : chkI N D = 0 := by rw [chkI, if_pos ho]
    rw [hc] at A1
    obtain ⟨o1, o2, o3, o4, o5⟩ := okF_out ho
    by_cases hn : 1 ≤ n ∧ n ≤ 1000000000000000000
    · by_cases hd : D ≤ n
      · have R : Hid (nearIs N D n N D 0) := Lib.hid (by unfold nearIs; rw [if_pos ho, if_pos hn]; exact ⟨rfl, best_own N D n o1 hd o5⟩)
        clear ho hc o5
        have dAl := dAl; have dSt := dSt; have xC := ext_cell; have xF := ext_frozen; have xS := ext_set; have xN := ext_drewN; have xD := ext_drew; have xL := ext_lt; have xE := ext_ne; have xG := ext_nr; have xX := ext_ext; have xL1 := ext_lt1; have xL2 := ext_lt2; have xL3 := ext_lt3; have xM0 := ext_le0; have xM1 := ext_le1; have xM2 := ext_le2
        go_enter Try.func18, Try.ntmps18
        go_wp2_with fail
        refine (A1 _).mono ?_
        rintro e w1c ⟨rfl, hb1c⟩
        obtain ⟨l1c, d1c, rfl⟩ := toExt hb1c
        clear hb1c
        clear A1
        go_wp2
        refine bodyPost_ret (by simp [results, Try.results18, go_sem, ext_cell, World.cell?_alloc_past, ltk2, ltk3, ltk4, ltk5, ltk6, ltk7, ltk8, ltk9, *]; try rfl) rfl ?_
        exact ⟨_, _, _, R.out, rfl, by (repeat (first | with_reducible exact b0 _ | (with_reducible refine bext ?_ _ _) | (with_reducible refine below_drewN ?_ _) | (with_reducible refine Below.drew ?_) | (with_reducible refine bal ?_ _)))⟩
      · refine (ref_near_core N D n ho hn.1 (by omega) w).mono ?_
        rintro e w' ⟨P, Q, hb, he, hB⟩
        exact ⟨P, Q, 0, by unfold nearIs; rw [if_pos ho, if_pos hn]; exact ⟨rfl, hb⟩, he, hB⟩
    · have R : Hid (nearIs N D n 0 0 2) := Lib.hid (by unfold nearIs; rw [if_pos ho, if_neg hn]; exact ⟨rfl, rfl, rfl⟩)
      clear ho hc o5
      by_cases h1 : n < 1
      · skip
        have dAl := dAl; have dSt := dSt; have xC := ext_cell; have xF := ext_frozen; have xS := ext_set; have xN := ext_drewN; have xD := ext_drew; have xL := ext_lt; have xE := ext_ne; have xG := ext_nr; have xX := ext_ext; have xL1 := ext_lt1; have xL2 := ext_lt2; have xL3 := ext_lt3; have xM0 := ext_le0; have xM1 := ext_le1; have xM2 := ext_le2
        go_enter Try.func18, Try.ntmps18
        go_wp2_with fail
        refine (A1 _).mono ?_
        rintro e w2c ⟨rfl, hb2c⟩
        obtain ⟨l2c, d2c, rfl⟩ := toExt hb2c
        clear hb2c
        clear A1
        go_wp2
        refine bodyPost_ret (by simp [results, Try.results18, go_sem, ext_cell, World.cell?_alloc_past, ltk2, ltk3, ltk4, ltk5, ltk6, ltk7, ltk8, ltk9, *]; try rfl) rfl ?_
        exact ⟨_, _, _, R.out, rfl, by (repeat (first | with_reducible exact b0 _ | (with_reducible refine bext ?_ _ _) | (with_reducible refine below_drewN ?_ _) | (with_reducible refine Below.drew ?_) | (with_reducible refine bal ?_ _)))⟩
      · have h2 : 1000000000000000000 < n := by omega
        have dAl := dAl; have dSt := dSt; have xC := ext_cell; have xF := ext_frozen; have xS := ext_set; have xN := ext_drewN; have xD := ext_drew; have xL := ext_lt; have xE := ext_ne; have xG := ext_nr; have xX := ext_ext; have xL1 := ext_lt1; have xL2 := ext_lt2; have xL3 := ext_lt3; have xM0 := ext_le0; have xM1 := ext_le1; have xM2 := ext_le2
        go_enter Try.func18, Try.ntmps18
        go_wp2_with fail
        refine (A1 _).mono ?_
        rintro e w3c ⟨rfl, hb3c⟩
        obtain ⟨l3c, d3c, rfl⟩ := toExt hb3c
        clear hb3c
        clear A1
        go_wp2
        refine bodyPost_ret (by simp [results, Try.results18, go_sem, ext_cell, World.cell?_alloc_past, ltk2, ltk3, ltk4, ltk5, ltk6, ltk7, ltk8, ltk9, *]; try rfl) rfl ?_
        exact ⟨_, _, _, R.out, rfl, by (repeat (first | with_reducible exact b0 _ | (with_reducible refine bext ?_ _ _) | (with_reducible refine below_drewN ?_ _) | (with_reducible refine Below.drew ?_) | (with_reducible refine bal ?_ _)))⟩
  · have hc : chkI N D = 8 := by rw [chkI, if_neg ho]
    rw [hc] at A1
    have R : Hid (nearIs N D n 0 0 8) := Lib.hid (by unfold nearIs; rw [if_neg ho]; exact ⟨rfl, rfl, rfl⟩)
    clear ho hc
    have dAl := dAl; have dSt := dSt; have xC := ext_cell; have xF := ext_frozen; have xS := ext_set; have xN := ext_drewN; have xD := ext_drew; have xL := ext_lt; have xE := ext_ne; have xG := ext_nr; have xX := ext_ext; have xL1 := ext_lt1; have xL2 := ext_lt2; have xL3 := ext_lt3; have xM0 := ext_le0; have xM1 := ext_le1; have xM2 := ext_le2
    go_enter Try.func18, Try.ntmps18
    go_wp2_with fail
    refine (A1 _).mono ?_
    rintro e w4c ⟨rfl, hb4c⟩
    obtain ⟨l4c, d4c, rfl⟩ := toExt hb4c
    clear hb4c
    go_wp2_with fail
    refine (A1 _).mono ?_
    rintro e w5c ⟨rfl, hb5c⟩
    obtain ⟨l5c, d5c, rfl⟩ := toExt hb5c
    clear hb5c
    clear A1
    go_wp2
    refine bodyPost_ret (by simp [results, Try.results18, go_sem, ext_cell, World.cell?_alloc_past, ltk2, ltk3, ltk4, ltk5, ltk6, ltk7, ltk8, ltk9, *]; try rfl) rfl ?_
    exact ⟨_, _, _, R.out, rfl, by (repeat (first | with_reducible exact b0 _ | (with_reducible refine bext ?_ _ _) | (with_reducible refine below_drewN ?_ _) | (with_reducible refine Below.drew ?_) | (with_reducible refine bal ?_ _)))⟩
end Go.Proofs.Ytbckjccbihnlnaa
