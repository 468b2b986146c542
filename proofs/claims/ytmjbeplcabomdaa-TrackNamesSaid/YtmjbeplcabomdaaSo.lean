/-
  Words of layer 5: enclosures of fractions (no program is mentioned here).
-/
import Derived.Test.YtmjbeplcabomdaaSm
namespace Go.Proofs.Ytmjbeplcabomdaa
set_option linter.unusedVariables false
def ofL (n d : Int) : Int := n * 1000000 / d
def ofH (n d : Int) : Int := if n * 1000000 % d = 0 then ofL n d else ofL n d + 1
def ovL (n d : Int) : Int := if okF n d = true then mdL (ofL n d) (ofH n d) else 0
def ovH (n d : Int) : Int := if okF n d = true then mdH (ofL n d) (ofH n d) else 0
def ovE (n d : Int) : Int := if okF n d = true then mdE (ofL n d) (ofH n d) else 8
theorem of_wid (n d : Int) : ofL n d ≤ ofH n d ∧ ofH n d ≤ ofL n d + 1 := by unfold ofH; split <;> omega
/-- Whole part and rest. -/
theorem of_part (n d q r : Int) (hd : 1 ≤ d) (h : n = q * d + r) : ofL n d = q * 1000000 + r * 1000000 / d ∧ n * 1000000 % d = r * 1000000 % d := by
  have e : n * 1000000 = r * 1000000 + d * (q * 1000000) := by subst h; grind
  unfold ofL
  rw [e, Int.add_mul_ediv_left _ _ (by omega), Int.add_mul_emod_self_left]
  exact ⟨by omega, rfl⟩
end Go.Proofs.Ytmjbeplcabomdaa
