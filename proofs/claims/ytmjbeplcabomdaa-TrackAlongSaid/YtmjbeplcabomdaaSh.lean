/-
  What is enclosed stays enclosed: sums, differences and products (no program is mentioned here).
-/
import Derived.Test.YtmjbeplcabomdaaQi
import Derived.Test.YtmjbeplcabomdaaFff
namespace Go.Proofs.Ytmjbeplcabomdaa
set_option linter.unusedVariables false
theorem inB_iff {a b n d : Int} : inB a b n d = true ↔ a * d ≤ n * 1000000 ∧ n * 1000000 ≤ b * d := by simp [inB]
/-- A product of two numbers lies between the least and the greatest product of ends. -/
theorem mul_ends {a b c e x y : Int} (x1 : a ≤ x) (x2 : x ≤ b) (y1 : c ≤ y) (y2 : y ≤ e) : mi4 (a * c) (a * e) (b * c) (b * e) ≤ x * y ∧ x * y ≤ ma4 (a * c) (a * e) (b * c) (b * e) := by
  have lo : a * y ≤ x * y ∨ b * y ≤ x * y := by
    rcases Int.le_total 0 y with h | h
    · exact Or.inl (Int.mul_le_mul_of_nonneg_right x1 h)
    · exact Or.inr (Int.mul_le_mul_of_nonpos_right x2 h)
  have hi : x * y ≤ b * y ∨ x * y ≤ a * y := by
    rcases Int.le_total 0 y with h | h
    · exact Or.inl (Int.mul_le_mul_of_nonneg_right x2 h)
    · exact Or.inr (Int.mul_le_mul_of_nonpos_right x1 h)
  have lin : ∀ k : Int, (k * c ≤ k * y ∧ k * y ≤ k * e) ∨ (k * e ≤ k * y ∧ k * y ≤ k * c) := by
    intro k
    rcases Int.le_total 0 k with h | h
    · exact Or.inl ⟨Int.mul_le_mul_of_nonneg_left y1 h, Int.mul_le_mul_of_nonneg_left y2 h⟩
    · exact Or.inr ⟨Int.mul_le_mul_of_nonpos_left h y2, Int.mul_le_mul_of_nonpos_left h y1⟩
  have la := lin a
  have lb := lin b
  unfold mi4 ma4
  omega
theorem mi4_mul {p q r s k : Int} (hk : 0 ≤ k) : mi4 (p * k) (q * k) (r * k) (s * k) = mi4 p q r s * k := by
  have mo : ∀ u v : Int, u ≤ v → u * k ≤ v * k := fun u v h => Int.mul_le_mul_of_nonneg_right h hk
  have key : ∀ u v : Int, min (u * k) (v * k) = min u v * k := by
    intro u v
    rcases Int.le_total u v with h | h
    · rw [Int.min_eq_left h, Int.min_eq_left (mo _ _ h)]
    · rw [Int.min_eq_right h, Int.min_eq_right (mo _ _ h)]
  unfold mi4; rw [key, key, key]
theorem ma4_mul {p q r s k : Int} (hk : 0 ≤ k) : ma4 (p * k) (q * k) (r * k) (s * k) = ma4 p q r s * k := by
  have mo : ∀ u v : Int, u ≤ v → u * k ≤ v * k := fun u v h => Int.mul_le_mul_of_nonneg_right h hk
  have key : ∀ u v : Int, max (u * k) (v * k) = max u v * k := by
    intro u v
    rcases Int.le_total u v with h | h
    · rw [Int.max_eq_right h, Int.max_eq_right (mo _ _ h)]
    · rw [Int.max_eq_left h, Int.max_eq_left (mo _ _ h)]
  unfold ma4; rw [key, key, key]
theorem md_out {a b : Int} (h : mdE a b = 0) : mdL a b = a ∧ mdH a b = b ∧ spV a b = true := by
  unfold mdE at h
  by_cases k : spV a b = true
  · rw [mdL, mdH, if_pos k, if_pos k]; exact ⟨rfl, rfl, k⟩
  · rw [if_neg k] at h; omega
/-- The least enclosure of a fraction. -/
theorem of_least {n d : Int} (o : okF n d = true) : inB (ofL n d) (ofH n d) n d = true ∧ (ofL n d < ofH n d → inB (ofL n d) (ofL n d) n d = false ∧ inB (ofH n d) (ofH n d) n d = false) := by
  obtain ⟨d1, _⟩ := okF_out o
  have l1 := (of_le (ofL n d) n d d1).1 (Int.le_refl _)
  have h1 := (of_ge (ofH n d) n d d1).1 (Int.le_refl _)
  refine ⟨inB_iff.2 ⟨l1, h1⟩, fun hlt => ⟨?_, ?_⟩⟩
  · rw [← Bool.not_eq_true, inB_iff]
    intro k
    have := (of_ge (ofL n d) n d d1).2 k.2
    omega
  · rw [← Bool.not_eq_true, inB_iff]
    intro k
    have := (of_le (ofH n d) n d d1).2 k.1
    omega
end Go.Proofs.Ytmjbeplcabomdaa
