/-
  The order of the reference, in the words of numbers.
-/
import Derived.Test.YtilcgbloangcmaaFl
namespace Go.Proofs.Ytilcgbloangcmaa
open Go.RowKit
set_option linter.unusedVariables false
set_option linter.unusedSimpArgs false

set_option maxHeartbeats 400000 in
theorem ref_Less (n1 d1 n2 d2 : Int)
    (a1 : -1000000000000000000 ≤ n1) (a2 : n1 ≤ 1000000000000000000) (a3 : 1 ≤ d1) (a4 : d1 ≤ 1000000000000000000)
    (c1 : -1000000000000000000 ≤ n2) (c2 : n2 ≤ 1000000000000000000) (c3 : 1 ≤ d2) (c4 : d2 ≤ 1000000000000000000) (w : World) :
    Calls Try.prog 49 #[.agg #[.int .i64 n1, .int .i64 d1], .agg #[.int .i64 n2, .int .i64 d2]] w fun e w' =>
      e = .returned (.bool (decide (n1 * d2 < n2 * d1))) ∧ Below w.heap.size w w' := by
  by_cases h : (n1 < 0) = (n2 < 0)
  · refine less_core n1 d1 n2 d2 _ _ _ a1 a2 a3 a4 c1 c2 c3 c4 rfl rfl (by simp only [h]; simp) ?_ w
    have e1 := sg_mul n1 d2
    have e2 := sg_mul n2 d1
    have f1 : sgB n1 d2 = decide (n1 < 0) := sgB_right n1 d2 (by omega)
    have f2 : sgB n2 d1 = decide (n2 < 0) := sgB_right n2 d1 (by omega)
    rw [f1, absI_of d2 (by omega)] at e1
    rw [f2, absI_of d1 (by omega)] at e2
    rw [← e1, ← e2]
    unfold Hid bigB sv
    by_cases hn : n1 < 0
    · have hn2 : n2 < 0 := by rw [← h]; exact hn
      simp only [hn, hn2, decide_true, if_true]
      congr 1
      simp
    · have hn2 : ¬ n2 < 0 := by rw [← h]; exact hn
      simp [hn, hn2]
  · have hs : (!decide (n1 < 0) == decide (n2 < 0)) = true := by
      by_cases hn : n1 < 0 <;> by_cases hn2 : n2 < 0 <;> simp_all
    have hv : decide (n1 * d2 < n2 * d1) = decide (n1 < 0) := by
      by_cases hn : n1 < 0
      · have hn2 : 0 ≤ n2 := by
          by_cases hn2 : n2 < 0
          · simp_all
          · omega
        have p1 := Int.mul_neg_of_neg_of_pos hn (show 0 < d2 by omega)
        have p2 := Int.mul_nonneg hn2 (show 0 ≤ d1 by omega)
        simp [hn]; omega
      · have hn2 : n2 < 0 := by
          by_cases hn2 : n2 < 0
          · exact hn2
          · simp_all
        have p1 := Int.mul_nonneg (show 0 ≤ n1 by omega) (show 0 ≤ d2 by omega)
        have p2 := Int.mul_neg_of_neg_of_pos hn2 (show 0 < d1 by omega)
        simp [hn]; omega
    rw [hv]
    clear hv h
    go_enter Try.func49, Try.ntmps49
    go_wp2
    go_ret
    exact ⟨rfl, by (repeat (first | with_reducible exact b0 _ | (with_reducible refine bext ?_ _ _) | (with_reducible refine below_drewN ?_ _) | (with_reducible refine Below.drew ?_) | (with_reducible refine bal ?_ _)))⟩
end Go.Proofs.Ytilcgbloangcmaa
