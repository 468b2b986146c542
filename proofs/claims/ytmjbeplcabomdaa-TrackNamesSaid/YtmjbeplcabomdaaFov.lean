/-
  Plain numbers: a digit is divided bit by bit.
-/
import Derived.Test.YtmjbeplcabomdaaQc
namespace Go.Proofs.Ytmjbeplcabomdaa.Dv
set_option linter.unusedVariables false

theorem pow_pos (j : Nat) : (0 : Int) < 2 ^ j := Int.pow_pos (by omega)
end Go.Proofs.Ytmjbeplcabomdaa.Dv
