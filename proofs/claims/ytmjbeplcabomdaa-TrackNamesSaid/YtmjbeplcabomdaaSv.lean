/-
  What SineCircle states, of the numbers (no walk).
-/
import Derived.Test.YtmjbeplcabomdaaSl
namespace Go.Proofs.Ytmjbeplcabomdaa
set_option linter.unusedSimpArgs false
open Go.RowKit
set_option linter.unusedVariables false

theorem cs_congr {a b : Int} {n : Nat} (e : foN a n = foN b n) : csL a n = csL b n ∧ csH a n = csH b n := by
  unfold csL csH; rw [e]; exact ⟨rfl, rfl⟩
end Go.Proofs.Ytmjbeplcabomdaa
