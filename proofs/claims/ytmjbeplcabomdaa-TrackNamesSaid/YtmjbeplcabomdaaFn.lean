/-
  Plain numbers: fractions in lowest terms; what the two ways to add and to multiply come to.
-/
import Derived.Test.YtmjbeplcabomdaaFm
namespace Go.Proofs.Ytmjbeplcabomdaa
set_option linter.unusedVariables false

theorem okF_out {n d : Int} (h : okF n d = true) : 1 ≤ d ∧ d ≤ 1000000000000000000 ∧ -1000000000000000000 ≤ n ∧ n ≤ 1000000000000000000 ∧ gcdI n d = 1 := by
  unfold okF at h; simpa using h
def flV (n d : Int) : Int := if okF n d = true then n / d else 0
end Go.Proofs.Ytmjbeplcabomdaa
