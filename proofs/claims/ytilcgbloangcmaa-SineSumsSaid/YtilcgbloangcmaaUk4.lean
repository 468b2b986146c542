/-
  The steps from one part of a turn to the next: 559 to 645 parts.
-/
import Derived.Test.YtilcgbloangcmaaUa
namespace Go.Proofs.Ytilcgbloangcmaa
set_option maxRecDepth 10000
theorem chain_g : chainsN 559 44 = true := by decide +kernel
theorem chain_h : chainsN 604 41 = true := by decide +kernel
end Go.Proofs.Ytilcgbloangcmaa
