/-
  Plain words for vectors: valid coordinates, first errors, results with an error; bounds of products and sums of fractions; sums of products in two ways of reckoning; errors are small numbers.
-/
import Derived.Test.YtmjbeplcabomdaaKu
import Derived.Test.YtmjbeplcabomdaaFn
import Derived.Handy
import Derived.IntWalk
namespace Go.Proofs.Ytmjbeplcabomdaa
set_option linter.unusedVariables false

/-- A coordinate's numbers are of 64 bits. -/
def okC (n d : Int) : Prop := -9223372036854775808 ≤ n ∧ n ≤ 9223372036854775807 ∧ -9223372036854775808 ≤ d ∧ d ≤ 9223372036854775807
/-- A vector is valid. -/
def okV (a b c d e f : Int) : Bool := okF a b && (okF c d && okF e f)
def chV (a b c d e f : Int) : Int := if okV a b c d e f = true then 0 else 8
theorem okV_in {a b c d e f : Int} (h : okV a b c d e f = true) : okF a b = true ∧ okF c d = true ∧ okF e f = true := by
  unfold okV at h; simp at h; exact h
open Go.RowKit

end Go.Proofs.Ytmjbeplcabomdaa
