/-
  The reference: which enclosure has a fraction.
-/
import Derived.Test.YtilcgbloangcmaaSd
import Derived.Test.YtilcgbloangcmaaFa
import Derived.Test.YtilcgbloangcmaaFd
import Derived.Test.YtilcgbloangcmaaFov
import Derived.Test.YtilcgbloangcmaaFn
import Derived.Test.YtilcgbloangcmaaFz
import Derived.Deep.DeepCutAuto
import Derived.Shelf.Spec.BitsCarry
namespace Go.Proofs.Ytilcgbloangcmaa
open Go.RowKit
set_option linter.unusedVariables false
set_option linter.unusedSimpArgs false

set_option maxHeartbeats 400000 in
theorem law5_is (a b e lo hi : Int) (w : World) :
    Calls Try.prog 19 #[.agg #[.int .i64 a, .int .i64 b], .int .i64 e, .int .i64 lo, .int .i64 hi] w fun x w' => x = .returned (.bool (decide (e = 0 ∧ a = lo ∧ b = hi))) ∧ Below w.heap.size w w' := by
  have dAl := dAl; have dSt := dSt; have xC := ext_cell; have xF := ext_frozen; have xS := ext_set; have xN := ext_drewN; have xD := ext_drew; have xL := ext_lt; have xE := ext_ne; have xG := ext_nr; have xX := ext_ext; have xL1 := ext_lt1; have xL2 := ext_lt2; have xL3 := ext_lt3; have xM0 := ext_le0; have xM1 := ext_le1; have xM2 := ext_le2
  go_enter Try.func19, Try.ntmps19
  go_wp2
  all_goals go_ret
  all_goals exact ⟨ret_sb (by simp [*]), by (repeat (first | with_reducible exact b0 _ | (with_reducible refine bext ?_ _ _) | (with_reducible refine below_drewN ?_ _) | (with_reducible refine Below.drew ?_) | (with_reducible refine bal ?_ _)))⟩

end Go.Proofs.Ytilcgbloangcmaa
