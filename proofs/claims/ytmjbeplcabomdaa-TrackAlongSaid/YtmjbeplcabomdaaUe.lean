/-
  What SineSums states, of the numbers (no walk).
-/
import Derived.Test.YtmjbeplcabomdaaSn
import Derived.Test.YtmjbeplcabomdaaQj
import Derived.Test.YtmjbeplcabomdaaSc
import Derived.Test.YtmjbeplcabomdaaFe
import Derived.Test.YtmjbeplcabomdaaFov
import Derived.Test.YtmjbeplcabomdaaQe
import Derived.Test.YtmjbeplcabomdaaSh
namespace Go.Proofs.Ytmjbeplcabomdaa
set_option linter.unusedVariables false
set_option linter.unusedSimpArgs false
/-- An enclosure of numbers from -1 to 1. -/
def unitS (a b : Int) : Prop := a ≤ b ∧ -1000000 ≤ a ∧ b ≤ 1000000
theorem mul_unit {a b c d : Int} (h1 : unitS a b) (h2 : unitS c d) : smE a b c d = 0 ∧ unitS (smL a b c d) (smH a b c d) ∧
    ∀ X Y : Int, a * 1000000000000 ≤ X → X ≤ b * 1000000000000 → c * 1000000000000 ≤ Y → Y ≤ d * 1000000000000 → smL a b c d * 1000000000000000000000000000000 ≤ X * Y ∧ X * Y ≤ smH a b c d * 1000000000000000000000000000000 := by
  obtain ⟨a1, a2, a3⟩ := h1
  obtain ⟨c1, c2, c3⟩ := h2
  have hb : bV a b c d = true := by simp [bV, spV]; omega
  have mb : ∀ u v : Int, -1000000 ≤ u ∧ u ≤ 1000000 → -1000000 ≤ v ∧ v ≤ 1000000 → -1000000000000 ≤ u * v ∧ u * v ≤ 1000000000000 := by
    intro u v hu hv
    have h := Nat.mul_le_mul (show u.natAbs ≤ 1000000 by omega) (show v.natAbs ≤ 1000000 by omega)
    rw [← Int.natAbs_mul] at h
    omega
  have m1 := mb a c (by omega) (by omega)
  have m2 := mb a d (by omega) (by omega)
  have m3 := mb b c (by omega) (by omega)
  have m4 := mb b d (by omega) (by omega)
  have L1 := mi4_bd m1 m2 m3 m4
  have L2 := ma4_bd m1 m2 m3 m4
  have lm : mi4 (a * c) (a * d) (b * c) (b * d) ≤ ma4 (a * c) (a * d) (b * c) (b * d) := by unfold mi4 ma4; omega
  have e1 : pL a b c d = mi4 (a * c) (a * d) (b * c) (b * d) / 1000000 := rfl
  have e2 : pH a b c d = -(-ma4 (a * c) (a * d) (b * c) (b * d) / 1000000) := rfl
  have u : unitS (pL a b c d) (pH a b c d) := by rw [e1, e2]; unfold unitS; omega
  have hv : spV (pL a b c d) (pH a b c d) = true := by unfold unitS at u; simp [spV]; omega
  rw [smE, smL, smH, if_pos hb, if_pos hb, if_pos hb, mdE, mdL, mdH, if_pos hv, if_pos hv, if_pos hv]
  refine ⟨rfl, u, ?_⟩
  intro X Y x1 x2 y1 y2
  obtain ⟨n1, n2⟩ := mul_ends x1 x2 y1 y2
  have s1 : a * 1000000000000 * (c * 1000000000000) = a * c * 1000000000000000000000000 := by grind
  have s2 : a * 1000000000000 * (d * 1000000000000) = a * d * 1000000000000000000000000 := by grind
  have s3 : b * 1000000000000 * (c * 1000000000000) = b * c * 1000000000000000000000000 := by grind
  have s4 : b * 1000000000000 * (d * 1000000000000) = b * d * 1000000000000000000000000 := by grind
  rw [s1, s2, s3, s4, mi4_mul (by omega)] at n1
  rw [s1, s2, s3, s4, ma4_mul (by omega)] at n2
  rw [e1, e2]
  omega
theorem cs_unit (a : Int) (n : Nat) (h1 : 1 ≤ n) (h2 : n ≤ 720) : unitS (csL a n) (csH a n) := by
  have := cs_bd a n h1 h2
  unfold unitS; omega
end Go.Proofs.Ytmjbeplcabomdaa
