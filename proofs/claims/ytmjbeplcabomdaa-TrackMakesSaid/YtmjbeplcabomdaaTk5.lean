/-
  The reference's cosines are the code's: 646 to 720 parts.
-/
import Derived.Test.YtmjbeplcabomdaaTa
namespace Go.Proofs.Ytmjbeplcabomdaa
set_option maxRecDepth 10000
theorem same_i : srowsN 646 38 = true := by decide +kernel
theorem same_j : srowsN 685 35 = true := by decide +kernel
end Go.Proofs.Ytmjbeplcabomdaa
