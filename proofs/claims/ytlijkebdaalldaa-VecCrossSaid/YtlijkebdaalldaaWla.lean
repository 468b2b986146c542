/-
  The chapter's examples hold.
-/
import Derived.Test.YtlijkebdaalldaaKu
import Derived.Test.YtlijkebdaalldaaWal
import Derived.Test.YtlijkebdaalldaaWk3
import Derived.Test.YtlijkebdaalldaaMD
import Derived.Test.YtlijkebdaalldaaVv
namespace Go.Proofs.Ytlijkebdaalldaa
open Go.RowKit
set_option linter.unusedVariables false
set_option linter.unusedSimpArgs false

theorem okM_kd {M : Nat → Int} (h : decide (okM M) = true) : okM M := of_decide_eq_true h
set_option maxRecDepth 100000 in
theorem law_alive (w : World) : Calls Try.prog 22 #[] w fun x w' => x = .returned (.bool true) ∧ Below w.heap.size w w' := by
  have oT : okM (tmR 2 1 2) := okM_kd (by decide +kernel)
  have oQ : okM (tmR 2 1 1) := okM_kd (by decide +kernel)
  have k1 : okC 1 1 := by unfold okC; omega
  have k2 : okC 1 2 := by unfold okC; omega
  have k0 : okC 0 1 := by unfold okC; omega
  have kv : okCW (fq6 1 1 0 1 0 1) := ⟨k1, k0, k0⟩
  refine alive_walk (tmR 2 1 2) (tmR 2 1 1) (fun w => ?_) (fun w => ?_) (fun w => ?_) (fun w => ?_) (fun w => ?_) (fun w => ?_) w
  · have h := vec_Dot 1 1 2 1 3 1 4 1 5 1 6 1 (by unfold okC; omega) (by unfold okC; omega) (by unfold okC; omega) (by unfold okC; omega) (by unfold okC; omega) (by unfold okC; omega) w
    rw [show dtN 1 1 2 1 3 1 4 1 5 1 6 1 = 32 from by decide +kernel, show dtD 1 1 2 1 3 1 4 1 5 1 6 1 = 1 from by decide +kernel, show dtE 1 1 2 1 3 1 4 1 5 1 6 1 = 0 from by decide +kernel] at h
    exact h
  · have h := vec_Cross 1 1 2 1 3 1 4 1 5 1 6 1 (by unfold okC; omega) (by unfold okC; omega) (by unfold okC; omega) (by unfold okC; omega) (by unfold okC; omega) (by unfold okC; omega) w
    rw [show crE 1 1 2 1 3 1 4 1 5 1 6 1 = 0 from by decide +kernel] at h
    simp only [vz0] at h
    rw [show twN 2 1 6 1 (-3) 1 5 1 = -3 from by decide +kernel, show twD 2 1 6 1 (-3) 1 5 1 = 1 from by decide +kernel, show twN 3 1 4 1 (-1) 1 6 1 = 6 from by decide +kernel, show twD 3 1 4 1 (-1) 1 6 1 = 1 from by decide +kernel, show twN 1 1 5 1 (-2) 1 4 1 = -3 from by decide +kernel, show twD 1 1 5 1 (-2) 1 4 1 = 1 from by decide +kernel] at h
    exact h
  · have h := vec_TurnM 2 1 2 k2 w
    rw [show tmE 2 1 2 = 0 from by decide +kernel] at h
    exact h
  · have h := vec_ApplyM (tmR 2 1 2) (fq6 1 1 0 1 0 1) (okM_okCM oT) kv w
    rw [show apR (tmR 2 1 2) (fq6 1 1 0 1 0 1) 0 = 3 from by decide +kernel, show apR (tmR 2 1 2) (fq6 1 1 0 1 0 1) 1 = 5 from by decide +kernel, show apR (tmR 2 1 2) (fq6 1 1 0 1 0 1) 2 = 4 from by decide +kernel, show apR (tmR 2 1 2) (fq6 1 1 0 1 0 1) 3 = 5 from by decide +kernel, show apR (tmR 2 1 2) (fq6 1 1 0 1 0 1) 4 = 0 from by decide +kernel, show apR (tmR 2 1 2) (fq6 1 1 0 1 0 1) 5 = 1 from by decide +kernel, show apE (tmR 2 1 2) (fq6 1 1 0 1 0 1) = 0 from by decide +kernel] at h
    exact h
  · have h := vec_TurnM 2 1 1 k1 w
    rw [show tmE 2 1 1 = 0 from by decide +kernel] at h
    exact h
  · have h := vec_ApplyM (tmR 2 1 1) (fq6 1 1 0 1 0 1) (okM_okCM oQ) kv w
    rw [show apR (tmR 2 1 1) (fq6 1 1 0 1 0 1) 0 = 0 from by decide +kernel, show apR (tmR 2 1 1) (fq6 1 1 0 1 0 1) 1 = 1 from by decide +kernel, show apR (tmR 2 1 1) (fq6 1 1 0 1 0 1) 2 = 1 from by decide +kernel, show apR (tmR 2 1 1) (fq6 1 1 0 1 0 1) 3 = 1 from by decide +kernel, show apR (tmR 2 1 1) (fq6 1 1 0 1 0 1) 4 = 0 from by decide +kernel, show apR (tmR 2 1 1) (fq6 1 1 0 1 0 1) 5 = 1 from by decide +kernel, show apE (tmR 2 1 1) (fq6 1 1 0 1 0 1) = 0 from by decide +kernel] at h
    exact h
end Go.Proofs.Ytlijkebdaalldaa
