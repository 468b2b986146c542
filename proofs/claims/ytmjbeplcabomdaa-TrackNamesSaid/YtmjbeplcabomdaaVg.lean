/-
  Package vec: rows of numbers, vector.
-/
import Derived.Test.YtmjbeplcabomdaaKu
import Derived.Test.YtmjbeplcabomdaaVd
namespace Go.Proofs.Ytmjbeplcabomdaa
open Go.RowKit
set_option linter.unusedVariables false
set_option linter.unusedSimpArgs false

theorem all6 {P : Nat → Prop} (p0 : P 0) (p1 : P 1) (p2 : P 2) (p3 : P 3) (p4 : P 4) (p5 : P 5) : ∀ o, o < 6 → P o := by
  intro o ho
  rcases (show o = 0 ∨ o = 1 ∨ o = 2 ∨ o = 3 ∨ o = 4 ∨ o = 5 by omega) with rfl | rfl | rfl | rfl | rfl | rfl <;> assumption
def li (l : List Int) (o : Nat) : Int := l.getD o 0
theorem rows1 (a b c d e f : Int) : rowsE (li [a, b, c, d, e, f]) 1 = chV a b c d e f := by
  unfold rowsE chV
  by_cases h : okV a b c d e f = true
  · rw [if_pos h, if_pos]
    intro i hi
    obtain rfl : i = 0 := by omega
    exact okV_in h
  · rw [if_neg h, if_neg]
    intro k
    obtain ⟨k1, k2, k3⟩ := k 0 (by omega)
    apply h; unfold okV
    have e1 : okF a b = true := k1
    have e2 : okF c d = true := k2
    have e3 : okF e f = true := k3
    rw [e1, e2, e3]; rfl
end Go.Proofs.Ytmjbeplcabomdaa
