/-
  What is checked of the cosines of parts of a turn, the greatest numbers of parts.
-/
import Derived.Test.YtmjbeplcabomdaaSn
namespace Go.Proofs.Ytmjbeplcabomdaa
set_option maxRecDepth 10000
theorem rows_c : rowsN 501 129 = true := by decide +kernel
theorem rows_d : rowsN 631 89 = true := by decide +kernel
end Go.Proofs.Ytmjbeplcabomdaa
