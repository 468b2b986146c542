/-
  Plain numbers: what Make, Mul and Div answer.
-/
import Derived.Test.YtilcgbloangcmaaFn
namespace Go.Proofs.Ytilcgbloangcmaa
set_option linter.unusedVariables false

def maN (num den : Int) : Int := if den = 0 then 0 else bdN (sgB num den) (absI num / gcdI num den) (absI den / gcdI num den)
def maD (num den : Int) : Int := if den = 0 then 0 else bdD false (absI num / gcdI num den) (absI den / gcdI num den)
def maE (num den : Int) : Int := if den = 0 then 18 else bdE (absI num / gcdI num den) (absI den / gcdI num den)
theorem gcdI_pos' (a b : Int) (h : ¬ b = 0) : 0 < gcdI a b := by
  unfold gcdI
  have := Nat.gcd_pos_of_pos_right a.natAbs (show 0 < b.natAbs by omega)
  omega
end Go.Proofs.Ytilcgbloangcmaa
