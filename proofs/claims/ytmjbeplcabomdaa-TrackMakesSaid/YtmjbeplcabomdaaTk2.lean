/-
  The reference's cosines are the code's: 323 to 456 parts.
-/
import Derived.Test.YtmjbeplcabomdaaTa
namespace Go.Proofs.Ytmjbeplcabomdaa
set_option maxRecDepth 10000
theorem same_c : srowsN 323 72 = true := by decide +kernel
theorem same_d : srowsN 396 60 = true := by decide +kernel
end Go.Proofs.Ytmjbeplcabomdaa
