/-
  What the functions of the reference do that reckon with numbers of four digits.
-/
import Derived.Test.YtilcgbloangcmaaFt
namespace Go.Proofs.Ytilcgbloangcmaa
open Go.RowKit
set_option linter.unusedVariables false
set_option linter.unusedSimpArgs false

set_option maxHeartbeats 1600000 in
theorem ref_sum (m k : Int) (h0 : 0 ≤ m) (i0 : 0 ≤ k) (hs : m + k < 340282366920938463463374607431768211456) (w : World) :
    Calls Try.prog 53 #[.agg #[.int .u64 (dg0 (m)), .int .u64 (dg1 (m)), .int .u64 (dg2 (m)), .int .u64 (dg3 (m))], .agg #[.int .u64 (dg0 (k)), .int .u64 (dg1 (k)), .int .u64 (dg2 (k)), .int .u64 (dg3 (k))]] w fun e w' => e = .returned (.agg #[.int .u64 (dg0 (m + k)), .int .u64 (dg1 (m + k)), .int .u64 (dg2 (m + k)), .int .u64 (dg3 (m + k))]) ∧ Below w.heap.size w w' := by
  obtain ⟨a1, a2, a3, a4, a5, a6, a7, a8⟩ := dg_bd m
  obtain ⟨c1, c2, c3, c4, c5, c6, c7, c8⟩ := dg_bd k
  have sm := dg_sum m (by omega) (by omega)
  have sk := dg_sum k (by omega) (by omega)
  generalize dg0 m = x0 at *
  generalize dg1 m = x1 at *
  generalize dg2 m = x2 at *
  generalize dg3 m = x3 at *
  generalize dg0 k = y0 at *
  generalize dg1 k = y1 at *
  generalize dg2 k = y2 at *
  generalize dg3 k = y3 at *
  have SM := Lib.hid sm; have SK := Lib.hid sk
  clear sm sk
  have dAl := dAl; have dSt := dSt; have xC := ext_cell; have xF := ext_frozen; have xS := ext_set; have xN := ext_drewN; have xD := ext_drew; have xL := ext_lt; have xE := ext_ne; have xG := ext_nr; have xX := ext_ext; have xL1 := ext_lt1; have xL2 := ext_lt2; have xL3 := ext_lt3; have xM0 := ext_le0; have xM1 := ext_le1; have xM2 := ext_le2
  go_enter Try.func53, Try.ntmps53
  go_wp2
  refine wp_loop_rounds 5 ?_
  rw [rounds_succ]
  go_wp2
  go_quiet (fail)
  go_wp2
  rw [rounds_succ]
  go_wp2
  go_quiet (fail)
  go_wp2
  rw [rounds_succ]
  go_wp2
  go_quiet (fail)
  go_wp2
  rw [rounds_succ]
  go_wp2
  go_quiet (fail)
  go_wp2
  rw [rounds_succ]
  go_wp2
  refine bodyPost_ret (by simp [results, Try.results53, go_sem, ext_ext, ext_cell]; try rfl) rfl ?_
  refine ⟨?_, by (repeat (first | with_reducible exact b0 _ | (with_reducible refine bext ?_ _ _) | (with_reducible refine below_drewN ?_ _) | (with_reducible refine Below.drew ?_) | (with_reducible refine bal ?_ _)))⟩
  have sm := SM.out; have sk := SK.out
  simp (disch := omega) only [Dv.and_lo, IntKind.wrap_u64]
  refine ret_big ?_
  refine dg_of _ _ _ _ _ ?_ ?_ ?_ ?_ ?_ ?_ ?_ ?_ ?_ <;> omega

set_option maxHeartbeats 1600000 in
theorem ref_rest (m k : Int) (h0 : 0 ≤ k) (i0 : k ≤ m) (hs : m < 340282366920938463463374607431768211456) (w : World) :
    Calls Try.prog 55 #[.agg #[.int .u64 (dg0 (m)), .int .u64 (dg1 (m)), .int .u64 (dg2 (m)), .int .u64 (dg3 (m))], .agg #[.int .u64 (dg0 (k)), .int .u64 (dg1 (k)), .int .u64 (dg2 (k)), .int .u64 (dg3 (k))]] w fun e w' => e = .returned (.agg #[.int .u64 (dg0 (m - k)), .int .u64 (dg1 (m - k)), .int .u64 (dg2 (m - k)), .int .u64 (dg3 (m - k))]) ∧ Below w.heap.size w w' := by
  obtain ⟨a1, a2, a3, a4, a5, a6, a7, a8⟩ := dg_bd m
  obtain ⟨c1, c2, c3, c4, c5, c6, c7, c8⟩ := dg_bd k
  have sm := dg_sum m (by omega) (by omega)
  have sk := dg_sum k (by omega) (by omega)
  generalize dg0 m = x0 at *
  generalize dg1 m = x1 at *
  generalize dg2 m = x2 at *
  generalize dg3 m = x3 at *
  generalize dg0 k = y0 at *
  generalize dg1 k = y1 at *
  generalize dg2 k = y2 at *
  generalize dg3 k = y3 at *
  have SM := Lib.hid sm; have SK := Lib.hid sk
  clear sm sk
  have dAl := dAl; have dSt := dSt; have xC := ext_cell; have xF := ext_frozen; have xS := ext_set; have xN := ext_drewN; have xD := ext_drew; have xL := ext_lt; have xE := ext_ne; have xG := ext_nr; have xX := ext_ext; have xL1 := ext_lt1; have xL2 := ext_lt2; have xL3 := ext_lt3; have xM0 := ext_le0; have xM1 := ext_le1; have xM2 := ext_le2
  go_enter Try.func55, Try.ntmps55
  go_wp2
  refine wp_loop_rounds 5 ?_
  rw [rounds_succ]
  go_wp2
  go_quiet (fail)
  go_wp2
  rw [rounds_succ]
  go_wp2
  go_quiet (fail)
  go_wp2
  rw [rounds_succ]
  go_wp2
  go_quiet (fail)
  go_wp2
  rw [rounds_succ]
  go_wp2
  go_quiet (fail)
  go_wp2
  rw [rounds_succ]
  go_wp2
  refine bodyPost_ret (by simp [results, Try.results55, go_sem, ext_ext, ext_cell]; try rfl) rfl ?_
  refine ⟨?_, by (repeat (first | with_reducible exact b0 _ | (with_reducible refine bext ?_ _ _) | (with_reducible refine below_drewN ?_ _) | (with_reducible refine Below.drew ?_) | (with_reducible refine bal ?_ _)))⟩
  have sm := SM.out; have sk := SK.out
  simp (disch := omega) only [Dv.and_lo, IntKind.wrap_u64]
  refine ret_big ?_
  refine dg_of _ _ _ _ _ ?_ ?_ ?_ ?_ ?_ ?_ ?_ ?_ ?_ <;> omega

end Go.Proofs.Ytilcgbloangcmaa
