/-
  Signs of products; worlds with six new blocks.
-/
import Derived.Test.YtilcgbloangcmaaFs2
import Derived.Test.YtilcgbloangcmaaFn
import Derived.Test.YtilcgbloangcmaaFz
import Derived.Deep.DeepCutAuto
namespace Go.Proofs.Ytilcgbloangcmaa
open Go.RowKit
set_option linter.unusedVariables false
set_option linter.unusedSimpArgs false

theorem below6 {w w' : World} {c1 c2 c3 c4 c5 c6 : Array Value} {n : Nat} {t : TypeId} (h : w' = ((((((w.alloc (.cells c1 t)).alloc (.cells c2 t)).alloc (.cells c3 t)).alloc (.cells c4 t)).alloc (.cells c5 t)).alloc (.cells c6 t)).drewN n) : Below w.heap.size w w' := by
  subst h
  (repeat (first | with_reducible exact b0 _ | (with_reducible refine bext ?_ _ _) | (with_reducible refine below_drewN ?_ _) | (with_reducible refine Below.drew ?_) | (with_reducible refine bal ?_ _)))

theorem sgB_right (x y : Int) (h : 0 ≤ y) : sgB x y = decide (x < 0) := by
  unfold sgB
  have e : decide (y < 0) = false := by
    rw [decide_eq_false_iff_not]; omega
  rw [e]
  cases decide (x < 0) <;> rfl

end Go.Proofs.Ytilcgbloangcmaa
