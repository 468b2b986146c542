/-
  Plain numbers: what Make, Mul and Div answer.
-/
import Derived.Test.YtdolfdmgdknboaaFn
namespace Go.Proofs.Ytdolfdmgdknboaa
set_option linter.unusedVariables false

def maN (num den : Int) : Int := if den = 0 then 0 else bdN (sgB num den) (absI num / gcdI num den) (absI den / gcdI num den)
def maD (num den : Int) : Int := if den = 0 then 0 else bdD false (absI num / gcdI num den) (absI den / gcdI num den)
def maE (num den : Int) : Int := if den = 0 then 18 else bdE (absI num / gcdI num den) (absI den / gcdI num den)
def dvN (n1 d1 n2 d2 : Int) : Int := if okF n1 d1 = true ∧ okF n2 d2 = true then (if n2 = 0 then 0 else mkN (n1 * flN n2 d2) (d1 * absI n2)) else 0
def dvD (n1 d1 n2 d2 : Int) : Int := if okF n1 d1 = true ∧ okF n2 d2 = true then (if n2 = 0 then 0 else mkD (n1 * flN n2 d2) (d1 * absI n2)) else 0
def dvE (n1 d1 n2 d2 : Int) : Int := if okF n1 d1 = true ∧ okF n2 d2 = true then (if n2 = 0 then 18 else mkE (n1 * flN n2 d2) (d1 * absI n2)) else 8

theorem flip_ok (n d : Int) (h : okF n d = true) (hn : ¬ n = 0) : okF (flN n d) (absI n) = true := by
  obtain ⟨o1, o2, o3, o4, o5⟩ := okF_out h
  have g : gcdI (flN n d) (absI n) = 1 := by
    rw [gcdI_abs_right]
    unfold flN
    split
    · rw [gcdI_neg, gcdI_comm]; exact o5
    · rw [gcdI_comm]; exact o5
  have a : 1 ≤ absI n ∧ absI n ≤ 1000000000000000000 := by unfold absI; omega
  have b : -1000000000000000000 ≤ flN n d ∧ flN n d ≤ 1000000000000000000 := by unfold flN; split <;> omega
  exact okF_in ⟨a.1, a.2, b.1, b.2, g⟩
theorem gcdI_pos' (a b : Int) (h : ¬ b = 0) : 0 < gcdI a b := by
  unfold gcdI
  have := Nat.gcd_pos_of_pos_right a.natAbs (show 0 < b.natAbs by omega)
  omega
theorem gcdI_le' (a b : Int) (h : ¬ b = 0) : gcdI a b ≤ absI b := by
  unfold gcdI absI
  have := Nat.gcd_le_right a.natAbs (show 0 < b.natAbs by omega)
  omega
end Go.Proofs.Ytdolfdmgdknboaa
