/-
  The steps from one part of a turn to the next: 457 to 558 parts.
-/
import Derived.Test.YtilcgbloangcmaaUa
namespace Go.Proofs.Ytilcgbloangcmaa
set_option maxRecDepth 10000
theorem chain_e : chainsN 457 53 = true := by decide +kernel
theorem chain_f : chainsN 511 47 = true := by decide +kernel
end Go.Proofs.Ytilcgbloangcmaa
