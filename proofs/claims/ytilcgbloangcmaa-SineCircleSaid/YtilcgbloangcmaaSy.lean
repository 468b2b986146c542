/-
  SineCircle, for any numbers.
-/
import Derived.Test.YtilcgbloangcmaaSx
namespace Go.Proofs.Ytilcgbloangcmaa
open Go.RowKit
set_option linter.unusedVariables false
set_option linter.unusedSimpArgs false

set_option maxRecDepth 100000 in
set_option maxHeartbeats 800000 in
theorem circle5 (k n : Int) (h1 : -9223372036854775808 ≤ k) (h2 : k ≤ 9223372036854775807) (w : World) :
    Calls Try.prog 6 #[.int .i64 k, .int .i64 n] w fun x w' => x = .returned (.bool true) ∧ Below w.heap.size w w' := by
  by_cases c : 1 ≤ n ∧ n ≤ 720 ∧ -1000000 ≤ k ∧ k ≤ 1000000
  · obtain ⟨c1, c2, c3, c4⟩ := c
    have := circle_main k n.toNat (by omega) (by omega) c3 c4 w
    rw [show ((n.toNat : Nat) : Int) = n by omega] at this
    exact this
  · have AL := fun w => law5_alive w
    rcases (show n < 1 ∨ (1 ≤ n ∧ 720 < n) ∨ (1 ≤ n ∧ n ≤ 720 ∧ k < -1000000) ∨ (1 ≤ n ∧ n ≤ 720 ∧ -1000000 ≤ k ∧ 1000000 < k) by omega) with q | ⟨q1, q2⟩ | ⟨q1, q2, q3⟩ | ⟨q1, q2, q3, q4⟩
    all_goals
      clear c
      have dAl := dAl; have dSt := dSt; have xC := ext_cell; have xF := ext_frozen; have xS := ext_set; have xN := ext_drewN; have xD := ext_drew; have xL := ext_lt; have xE := ext_ne; have xG := ext_nr; have xX := ext_ext; have xL1 := ext_lt1; have xL2 := ext_lt2; have xL3 := ext_lt3; have xM0 := ext_le0; have xM1 := ext_le1; have xM2 := ext_le2
      go_enter Try.func6, Try.ntmps6
      go_wp2_with fail
      refine (AL _).mono ?_
      rintro e w1c ⟨rfl, hb1c⟩
      obtain ⟨l1c, d1c, rfl⟩ := toExt hb1c
      clear hb1c
      go_wp2
      go_ret
      exact ⟨rfl, by (repeat (first | with_reducible exact b0 _ | (with_reducible refine bext ?_ _ _) | (with_reducible refine below_drewN ?_ _) | (with_reducible refine Below.drew ?_) | (with_reducible refine bal ?_ _)))⟩
end Go.Proofs.Ytilcgbloangcmaa
