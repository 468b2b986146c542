/-
  Rules on worlds that have grown: sizes are written so that they do not name what the new blocks hold.
-/
import Derived.Test.YtilcgbloangcmaaFa
import Derived.Test.YtilcgbloangcmaaFd
import Derived.Shelf.Spec.BitsCarry
namespace Go.Proofs.Ytilcgbloangcmaa
open Go.RowKit
set_option linter.unusedVariables false

def xs (n : Nat) (l : List Obj) : Nat := n + l.length
end Go.Proofs.Ytilcgbloangcmaa
