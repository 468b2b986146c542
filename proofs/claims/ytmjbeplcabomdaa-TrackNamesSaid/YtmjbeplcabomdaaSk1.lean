/-
  What is checked of the cosines of parts of a turn.
-/
import Derived.Test.YtmjbeplcabomdaaSn
namespace Go.Proofs.Ytmjbeplcabomdaa
set_option maxRecDepth 10000
theorem rows_a : rowsN 1 299 = true := by decide +kernel
theorem rows_b : rowsN 301 199 = true := by decide +kernel
end Go.Proofs.Ytmjbeplcabomdaa
