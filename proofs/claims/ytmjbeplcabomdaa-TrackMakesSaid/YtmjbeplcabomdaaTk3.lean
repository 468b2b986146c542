/-
  The reference's cosines are the code's: 457 to 558 parts.
-/
import Derived.Test.YtmjbeplcabomdaaTa
namespace Go.Proofs.Ytmjbeplcabomdaa
set_option maxRecDepth 10000
theorem same_e : srowsN 457 53 = true := by decide +kernel
theorem same_f : srowsN 511 47 = true := by decide +kernel
end Go.Proofs.Ytmjbeplcabomdaa
