/-
  The steps from one part of a turn to the next: 646 to 720 parts.
-/
import Derived.Test.YtilcgbloangcmaaUa
namespace Go.Proofs.Ytilcgbloangcmaa
set_option maxRecDepth 10000
theorem chain_i : chainsN 646 38 = true := by decide +kernel
theorem chain_j : chainsN 685 35 = true := by decide +kernel
end Go.Proofs.Ytilcgbloangcmaa
