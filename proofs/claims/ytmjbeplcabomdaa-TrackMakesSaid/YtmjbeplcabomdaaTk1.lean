/-
  The reference's cosines are the code's: 1 to 322 parts.
-/
import Derived.Test.YtmjbeplcabomdaaTa
namespace Go.Proofs.Ytmjbeplcabomdaa
set_option maxRecDepth 10000
theorem same_a : srowsN 1 227 = true := by decide +kernel
theorem same_b : srowsN 229 93 = true := by decide +kernel
end Go.Proofs.Ytmjbeplcabomdaa
