/-
  The reference's cosines are the code's: 559 to 645 parts.
-/
import Derived.Test.YtmjbeplcabomdaaTa
namespace Go.Proofs.Ytmjbeplcabomdaa
set_option maxRecDepth 10000
theorem same_g : srowsN 559 44 = true := by decide +kernel
theorem same_h : srowsN 604 41 = true := by decide +kernel
end Go.Proofs.Ytmjbeplcabomdaa
