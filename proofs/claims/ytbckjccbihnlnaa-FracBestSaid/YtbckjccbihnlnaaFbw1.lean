/-
  The law on the nearest fraction, walked: where nothing is compared.
-/
import Derived.Test.YtbckjccbihnlnaaFan
import Derived.Test.YtbckjccbihnlnaaFva
import Derived.Test.YtbckjccbihnlnaaFbn
import Derived.Test.YtbckjccbihnlnaaFyz
namespace Go.Proofs.Ytbckjccbihnlnaa
open Go.RowKit
set_option linter.unusedVariables false
set_option linter.unusedSimpArgs false

theorem near_best (N D n : Int) (ho : okF N D = true) (h1 : 1 ≤ n) (h2 : n ≤ 1000000000000000000) (w : World) :
    Calls Try.prog 17 #[.agg #[.int .i64 N, .int .i64 D], .int .i64 n] w fun e w' => ∃ P Q : Int, bestP N D n P Q ∧ e = .returned (.tuple #[.agg #[.int .i64 P, .int .i64 Q], .int .i64 0]) ∧ Below w.heap.size w w' := by
  obtain ⟨o1, o2, o3, o4, o5⟩ := okF_out ho
  refine (frac_Near N D n (by omega) (by omega) (by omega) (by omega) (by omega) (by omega) w).mono ?_
  rintro e w' ⟨P, Q, E, hN, rfl, hb⟩
  rw [nearIs, if_pos ho, if_pos ⟨h1, h2⟩] at hN
  obtain ⟨rfl, hN⟩ := hN
  exact ⟨P, Q, hN, rfl, hb⟩
theorem near_own (N D : Int) (ho : okF N D = true) (w : World) :
    Calls Try.prog 17 #[.agg #[.int .i64 N, .int .i64 D], .int .i64 D] w fun e w' => e = .returned (.tuple #[.agg #[.int .i64 N, .int .i64 D], .int .i64 0]) ∧ Below w.heap.size w w' := by
  obtain ⟨o1, o2, o3, o4, o5⟩ := okF_out ho
  refine (near_best N D D ho o1 o2 w).mono ?_
  rintro e w' ⟨P, Q, hN, rfl, hb⟩
  obtain ⟨rfl, rfl⟩ := best_unique N D D P Q N D hN (best_own N D D o1 (by omega) o5)
  exact ⟨rfl, hb⟩

set_option maxRecDepth 100000 in
set_option maxHeartbeats 6400000 in
theorem best_bad (n1 d1 n2 d2 most : Int) (a1 : -9223372036854775808 ≤ n1) (a2 : n1 ≤ 9223372036854775807) (a3 : -9223372036854775808 ≤ d1) (a4 : d1 ≤ 9223372036854775807)
    (c1 : -9223372036854775808 ≤ n2) (c2 : n2 ≤ 9223372036854775807) (c3 : -9223372036854775808 ≤ d2) (c4 : d2 ≤ 9223372036854775807) (ho : ¬ (okF n1 d1 = true ∧ okF n2 d2 = true)) (w : World) :
    Calls Try.prog 5 #[.agg #[.int .i64 n1, .int .i64 d1], .agg #[.int .i64 n2, .int .i64 d2], .int .i64 most] w fun e w' => e = .returned (.bool true) ∧ Below w.heap.size w w' := by
  have A1 := fun w => law_valid n1 d1 n2 d2 a1 a2 a3 a4 c1 c2 c3 c4 w
  rw [decide_eq_false ho] at A1
  have A2 := fun w => law_alive w
  clear ho a1 a2 a3 a4 c1 c2 c3 c4
  have dAl := dAl; have dSt := dSt; have xC := ext_cell; have xF := ext_frozen; have xS := ext_set; have xN := ext_drewN; have xD := ext_drew; have xL := ext_lt; have xE := ext_ne; have xG := ext_nr; have xX := ext_ext; have xL1 := ext_lt1; have xL2 := ext_lt2; have xL3 := ext_lt3; have xM0 := ext_le0; have xM1 := ext_le1; have xM2 := ext_le2
  go_enter Try.func5, Try.ntmps5
  go_wp2_with fail
  refine (A1 _).mono ?_
  rintro e w1c ⟨rfl, hb1c⟩
  obtain ⟨l1c, d1c, rfl⟩ := toExt hb1c
  clear hb1c
  go_wp2_with fail
  refine (A2 _).mono ?_
  rintro e w2c ⟨rfl, hb2c⟩
  obtain ⟨l2c, d2c, rfl⟩ := toExt hb2c
  clear hb2c
  clear A1 A2
  go_wp2
  go_ret
  exact ⟨rfl, by (repeat (first | with_reducible exact b0 _ | (with_reducible refine bext ?_ _ _) | (with_reducible refine below_drewN ?_ _) | (with_reducible refine Below.drew ?_) | (with_reducible refine bal ?_ _)))⟩

set_option maxRecDepth 100000 in
set_option maxHeartbeats 6400000 in
theorem best_arg (n1 d1 n2 d2 most : Int) (o1 : okF n1 d1 = true) (o2 : okF n2 d2 = true) (hm : most < 1 ∨ (1 ≤ most ∧ 1000000000000000000 < most)) (w : World) :
    Calls Try.prog 5 #[.agg #[.int .i64 n1, .int .i64 d1], .agg #[.int .i64 n2, .int .i64 d2], .int .i64 most] w fun e w' => e = .returned (.bool true) ∧ Below w.heap.size w w' := by
  obtain ⟨a3, a4, a1, a2, a5⟩ := okF_out o1
  obtain ⟨c3, c4, c1, c2, c5⟩ := okF_out o2
  have A1 := fun w => law_valid n1 d1 n2 d2 (by omega) (by omega) (by omega) (by omega) (by omega) (by omega) (by omega) (by omega) w
  rw [decide_eq_true (show okF n1 d1 = true ∧ okF n2 d2 = true from ⟨o1, o2⟩)] at A1
  have A2 := fun w => law_alive w
  clear o1 o2 a1 a2 a3 a4 a5 c1 c2 c3 c4 c5
  rcases hm with hm | ⟨hm, hm2⟩
  · have m1 : (most < 1) = True := eq_true hm
    have dAl := dAl; have dSt := dSt; have xC := ext_cell; have xF := ext_frozen; have xS := ext_set; have xN := ext_drewN; have xD := ext_drew; have xL := ext_lt; have xE := ext_ne; have xG := ext_nr; have xX := ext_ext; have xL1 := ext_lt1; have xL2 := ext_lt2; have xL3 := ext_lt3; have xM0 := ext_le0; have xM1 := ext_le1; have xM2 := ext_le2
    go_enter Try.func5, Try.ntmps5
    go_wp2_with fail
    refine (A1 _).mono ?_
    rintro e w3c ⟨rfl, hb3c⟩
    obtain ⟨l3c, d3c, rfl⟩ := toExt hb3c
    clear hb3c
    go_wp2_with fail
    refine (A2 _).mono ?_
    rintro e w4c ⟨rfl, hb4c⟩
    obtain ⟨l4c, d4c, rfl⟩ := toExt hb4c
    clear hb4c
    clear A1 A2
    go_wp2
    go_ret
    exact ⟨rfl, by (repeat (first | with_reducible exact b0 _ | (with_reducible refine bext ?_ _ _) | (with_reducible refine below_drewN ?_ _) | (with_reducible refine Below.drew ?_) | (with_reducible refine bal ?_ _)))⟩
  · have m1 : (most < 1) = False := eq_false (by omega)
    have m2 : (1000000000000000000 < most) = True := eq_true hm2
    have dAl := dAl; have dSt := dSt; have xC := ext_cell; have xF := ext_frozen; have xS := ext_set; have xN := ext_drewN; have xD := ext_drew; have xL := ext_lt; have xE := ext_ne; have xG := ext_nr; have xX := ext_ext; have xL1 := ext_lt1; have xL2 := ext_lt2; have xL3 := ext_lt3; have xM0 := ext_le0; have xM1 := ext_le1; have xM2 := ext_le2
    go_enter Try.func5, Try.ntmps5
    go_wp2_with fail
    refine (A1 _).mono ?_
    rintro e w5c ⟨rfl, hb5c⟩
    obtain ⟨l5c, d5c, rfl⟩ := toExt hb5c
    clear hb5c
    go_wp2_with fail
    refine (A2 _).mono ?_
    rintro e w6c ⟨rfl, hb6c⟩
    obtain ⟨l6c, d6c, rfl⟩ := toExt hb6c
    clear hb6c
    clear A1 A2
    go_wp2
    go_ret
    exact ⟨rfl, by (repeat (first | with_reducible exact b0 _ | (with_reducible refine bext ?_ _ _) | (with_reducible refine below_drewN ?_ _) | (with_reducible refine Below.drew ?_) | (with_reducible refine bal ?_ _)))⟩
end Go.Proofs.Ytbckjccbihnlnaa
