/-
  The reference's Cos and Sin, walked.
-/
import Derived.Test.YtmjbeplcabomdaaSc
import Derived.Test.YtmjbeplcabomdaaSn
import Derived.Test.YtmjbeplcabomdaaFa
import Derived.Test.YtmjbeplcabomdaaFd
import Derived.Test.YtmjbeplcabomdaaFov
import Derived.Test.YtmjbeplcabomdaaSl
import Derived.Shelf.Spec.BitsCarry
namespace Go.Proofs.Ytmjbeplcabomdaa
open Go.RowKit
set_option linter.unusedVariables false
set_option linter.unusedSimpArgs false

theorem bleT {a b : Nat} (h : a ≤ b) : Nat.ble a b = true := Nat.ble_eq_true_of_le h
theorem bleF {a b : Nat} (h : ¬ a ≤ b) : Nat.ble a b = false := by
  cases e : Nat.ble a b
  · rfl
  · exact absurd (Nat.le_of_ble_eq_true e) h
theorem condT {b : Bool} {x y : Nat} (h : b = true) : cond b x y = x := by subst h; rfl
theorem condF {b : Bool} {x y : Nat} (h : b = false) : cond b x y = y := by subst h; rfl
end Go.Proofs.Ytmjbeplcabomdaa
