/-
  The steps from one part of a turn to the next: 323 to 456 parts.
-/
import Derived.Test.YtilcgbloangcmaaUa
namespace Go.Proofs.Ytilcgbloangcmaa
set_option maxRecDepth 10000
theorem chain_c : chainsN 323 72 = true := by decide +kernel
theorem chain_d : chainsN 396 60 = true := by decide +kernel
end Go.Proofs.Ytilcgbloangcmaa
