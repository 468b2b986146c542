/-
  The law on the nearest fraction, walked: for all fractions and limits.
-/
import Derived.Test.YtbckjccbihnlnaaFbw2
import Derived.Test.YtbckjccbihnlnaaFbw3
namespace Go.Proofs.Ytbckjccbihnlnaa
open Go.RowKit
set_option linter.unusedVariables false

theorem best_walk (n1 d1 n2 d2 most : Int) (a1 : -9223372036854775808 ≤ n1) (a2 : n1 ≤ 9223372036854775807) (a3 : -9223372036854775808 ≤ d1) (a4 : d1 ≤ 9223372036854775807)
    (c1 : -9223372036854775808 ≤ n2) (c2 : n2 ≤ 9223372036854775807) (c3 : -9223372036854775808 ≤ d2) (c4 : d2 ≤ 9223372036854775807) (w : World) :
    Calls Try.prog 5 #[.agg #[.int .i64 n1, .int .i64 d1], .agg #[.int .i64 n2, .int .i64 d2], .int .i64 most] w fun e w' => e = .returned (.bool true) ∧ Below w.heap.size w w' := by
  by_cases ho : okF n1 d1 = true ∧ okF n2 d2 = true
  · obtain ⟨o1, o2⟩ := ho
    by_cases hm : 1 ≤ most ∧ most ≤ 1000000000000000000
    · by_cases hf : most < d2
      · exact best_far n1 d1 n2 d2 most o1 o2 hm.1 hm.2 (eq_true hf) w
      · exact best_near n1 d1 n2 d2 most o1 o2 hm.1 hm.2 (eq_false hf) w
    · exact best_arg n1 d1 n2 d2 most o1 o2 (by omega) w
  · exact best_bad n1 d1 n2 d2 most a1 a2 a3 a4 c1 c2 c3 c4 ho w
end Go.Proofs.Ytbckjccbihnlnaa
