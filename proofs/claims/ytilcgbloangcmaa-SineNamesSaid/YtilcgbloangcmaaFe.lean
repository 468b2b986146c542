/-
  The order of wide numbers, and the fraction of two of them.
-/
import Derived.Test.YtilcgbloangcmaaFa
import Derived.Test.YtilcgbloangcmaaFd
import Derived.Shelf.Spec.BitsCarry
namespace Go.Proofs.Ytilcgbloangcmaa
open Go.RowKit
set_option linter.unusedVariables false

theorem ret_fe {a b c a' b' c' : Int} (h : a = a') (k : b = b') (l : c = c') : Ending.returned (.tuple #[.agg #[.int .i64 a, .int .i64 b], .int .i64 c]) = .returned (.tuple #[.agg #[.int .i64 a', .int .i64 b'], .int .i64 c']) := by rw [h, k, l]

end Go.Proofs.Ytilcgbloangcmaa
