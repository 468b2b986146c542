/-
  The law on the field, walked: for all fractions.
-/
import Derived.Test.YtbckjccbihnlnaaFfw
import Derived.Test.YtbckjccbihnlnaaFfx1
import Derived.Test.YtbckjccbihnlnaaFfx2
import Derived.Test.YtbckjccbihnlnaaFfx3
namespace Go.Proofs.Ytbckjccbihnlnaa
open Go.RowKit
set_option linter.unusedVariables false

theorem same_frac (n1 d1 n2 d2 : Int) (o1 : okF n1 d1 = true) (o2 : okF n2 d2 = true) (h : n1 * d2 = n2 * d1) : n1 = n2 ∧ d1 = d2 := by
  obtain ⟨a1, a2, a3, a4, a5⟩ := okF_out o1
  obtain ⟨b1, b2, b3, b4, b5⟩ := okF_out o2
  obtain ⟨e1, e2⟩ := red_eq n1 d1 n2 d2 (by omega) b1 b5 h
  obtain ⟨e3, e4⟩ := red_eq n1 d1 n1 d1 (by omega) a1 a5 rfl
  exact ⟨e3.symm.trans e1, e4.symm.trans e2⟩
theorem coV_ne (n1 d1 n2 d2 : Int) (o1 : okF n1 d1 = true) (o2 : okF n2 d2 = true) (h : ¬ (n1 = n2 ∧ d1 = d2)) : (coV n1 d1 n2 d2 == 0) = false := by
  have k : ¬ n1 * d2 = n2 * d1 := fun k => h (same_frac n1 d1 n2 d2 o1 o2 k)
  rw [coV, if_pos ⟨o1, o2⟩]
  unfold cmpI
  rw [if_neg (c := n1 * d2 = n2 * d1) k]
  split <;> rfl
theorem field_walk (n1 d1 n2 d2 : Int) (a1 : -9223372036854775808 ≤ n1) (a2 : n1 ≤ 9223372036854775807) (a3 : -9223372036854775808 ≤ d1) (a4 : d1 ≤ 9223372036854775807)
    (c1 : -9223372036854775808 ≤ n2) (c2 : n2 ≤ 9223372036854775807) (c3 : -9223372036854775808 ≤ d2) (c4 : d2 ≤ 9223372036854775807) (w : World) :
    Calls Try.prog 4 #[.agg #[.int .i64 n1, .int .i64 d1], .agg #[.int .i64 n2, .int .i64 d2]] w fun e w' => e = .returned (.bool true) ∧ Below w.heap.size w w' := by
  by_cases ho : okF n1 d1 = true ∧ okF n2 d2 = true
  · obtain ⟨o1, o2⟩ := ho
    by_cases h1 : n1 = n2
    · by_cases h2 : d1 = d2
      · refine field_ok1 n1 d1 n2 d2 o1 o2 w (eq_true h1) (eq_true h2) ?_
        rw [coV, if_pos ⟨o1, o2⟩, h1, h2]
        unfold cmpI
        rw [if_neg (by omega), if_pos rfl]
      · exact field_ok3 n1 d1 n2 d2 o1 o2 w (eq_true h1) (eq_false h2) (coV_ne n1 d1 n2 d2 o1 o2 (fun k => h2 k.2))
    · exact field_ok2 n1 d1 n2 d2 o1 o2 w (eq_false h1) (coV_ne n1 d1 n2 d2 o1 o2 (fun k => h1 k.1))
  · exact field_bad n1 d1 n2 d2 a1 a2 a3 a4 c1 c2 c3 c4 ho w
end Go.Proofs.Ytbckjccbihnlnaa
