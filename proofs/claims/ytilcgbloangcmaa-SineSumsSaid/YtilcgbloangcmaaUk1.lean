/-
  The steps from one part of a turn to the next: 1 to 322 parts.
-/
import Derived.Test.YtilcgbloangcmaaUa
namespace Go.Proofs.Ytilcgbloangcmaa
set_option maxRecDepth 10000
theorem chain_a : chainsN 1 227 = true := by decide +kernel
theorem chain_b : chainsN 229 93 = true := by decide +kernel
end Go.Proofs.Ytilcgbloangcmaa
