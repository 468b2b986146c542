/-
  What SineCircle states, of the numbers (no walk).
-/
import Derived.Test.YtilcgbloangcmaaSl
namespace Go.Proofs.Ytilcgbloangcmaa
set_option linter.unusedSimpArgs false
open Go.RowKit
set_option linter.unusedVariables false

theorem cs_congr {a b : Int} {n : Nat} (e : foN a n = foN b n) : csL a n = csL b n ∧ csH a n = csH b n := by
  unfold csL csH; rw [e]; exact ⟨rfl, rfl⟩
theorem cs_bd (a : Int) (n : Nat) (h1 : 1 ≤ n) (h2 : n ≤ 720) : csL a n ≤ csH a n ∧ csH a n ≤ csL a n + 1 ∧ -1000000 ≤ csL a n ∧ csH a n ≤ 1000000 := by
  have hw := ac_wid n (alN a n) h1 h2 (al_le a n h1)
  rcases cs_form a n with ⟨e1, e2⟩ | ⟨e1, e2⟩ <;> rw [e1, e2] <;> omega
end Go.Proofs.Ytilcgbloangcmaa
