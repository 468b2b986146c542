/-
  Package vec: lists of coordinates, and their check.
-/
import Derived.Test.YtmjbeplcabomdaaKu
import Derived.Test.YtmjbeplcabomdaaFa
import Derived.Test.YtmjbeplcabomdaaFd
import Derived.Test.YtmjbeplcabomdaaFn
import Derived.Deep.DeepCutAuto
import Derived.Handy
import Derived.IntWalk
import Derived.Shelf.Spec.BitsCarry
import Derived.Deep.LoopGhost
namespace Go.Proofs.Ytmjbeplcabomdaa
open Go.RowKit
set_option linter.unusedVariables false
set_option linter.unusedSimpArgs false

def rowOk (C : Nat → Int) (i : Nat) : Prop := okF (C (i * 6)) (C (i * 6 + 1)) = true ∧ okF (C (i * 6 + 2)) (C (i * 6 + 3)) = true ∧ okF (C (i * 6 + 4)) (C (i * 6 + 5)) = true
instance (C : Nat → Int) (i : Nat) : Decidable (rowOk C i) := by unfold rowOk; infer_instance
end Go.Proofs.Ytmjbeplcabomdaa
