/-
  Plain numbers: sums and products do not depend on the order; inverse operations.
-/
import Derived.Test.YtmjbeplcabomdaaFn
namespace Go.Proofs.Ytmjbeplcabomdaa
set_option linter.unusedVariables false

/-- What a quotient in range comes to. -/
theorem mk_of (N D : Int) (hD : 0 < D) (h : mkE N D = 0) : okF (mkN N D) (mkD N D) = true ∧ mkN N D * D = N * mkD N D := by
  have hc : absI (rN N D) ≤ 1000000000000000000 ∧ rD N D ≤ 1000000000000000000 := by
    unfold mkE at h
    split at h
    · assumption
    · omega
  have e1 : mkN N D = rN N D := by unfold mkN; rw [if_pos hc]
  have e2 : mkD N D = rD N D := by unfold mkD; rw [if_pos hc]
  rw [e1, e2]
  have g0 := gcdI_pos N D hD
  have d1 := dvd_div N _ g0 (gcdI_dvd_left N D)
  have d2 := dvd_div D _ g0 (gcdI_dvd_right N D)
  have c := div_gcd_cop N D hD
  have p : 1 ≤ rD N D := by
    have := Int.ediv_pos_of_pos_of_dvd hD (by omega) (gcdI_dvd_right N D)
    unfold rD; omega
  refine ⟨okF_in ⟨p, hc.2, ?_, ?_, c⟩, ?_⟩
  · have := hc.1; unfold absI at this; omega
  · have := hc.1; unfold absI at this; omega
  · unfold rN rD
    generalize gcdI N D = g at *
    generalize N / g = x at *
    generalize D / g = y at *
    rw [d1, d2]; grind
end Go.Proofs.Ytmjbeplcabomdaa
