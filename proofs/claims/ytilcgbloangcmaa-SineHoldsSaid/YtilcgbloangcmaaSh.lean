/-
  What is enclosed stays enclosed: sums, differences and products (no program is mentioned here).
-/
import Derived.Test.YtilcgbloangcmaaSo
import Derived.Test.YtilcgbloangcmaaFff
namespace Go.Proofs.Ytilcgbloangcmaa
set_option linter.unusedVariables false
theorem inB_iff {a b n d : Int} : inB a b n d = true ↔ a * d ≤ n * 1000000 ∧ n * 1000000 ≤ b * d := by simp [inB]
theorem in_sc {s X Y N D : Int} (hD : 0 < D) (hY : 0 < Y) (h : X * D = N * Y) : (s * D ≤ N * 1000000 → s * Y ≤ X * 1000000) ∧ (N * 1000000 ≤ s * D → X * 1000000 ≤ s * Y) := by
  have e1 : (s * Y) * D = (s * D) * Y := by grind
  have e2 : (X * 1000000) * D = (N * 1000000) * Y := by grind
  constructor
  · intro k
    refine Int.le_of_mul_le_mul_right ?_ hD
    rw [e1, e2]; exact Int.mul_le_mul_of_nonneg_right k (by omega)
  · intro k
    refine Int.le_of_mul_le_mul_right ?_ hD
    rw [e1, e2]; exact Int.mul_le_mul_of_nonneg_right k (by omega)
theorem in_of {s t N D : Int} (hD : 0 < D) (he : mkE N D = 0) (h1 : s * D ≤ N * 1000000) (h2 : N * 1000000 ≤ t * D) : okF (mkN N D) (mkD N D) = true ∧ inB s t (mkN N D) (mkD N D) = true := by
  obtain ⟨o, e⟩ := mk_of N D hD he
  obtain ⟨o1, _⟩ := okF_out o
  exact ⟨o, inB_iff.2 ⟨(in_sc hD (by omega) e).1 h1, (in_sc hD (by omega) e).2 h2⟩⟩
theorem add_in {a b c e n d p q : Int} (o1 : okF n d = true) (o2 : okF p q = true) (h1 : inB a b n d = true) (h2 : inB c e p q = true) (he : adE n d p q = 0) :
    okF (adN n d p q) (adD n d p q) = true ∧ inB (a + c) (b + e) (adN n d p q) (adD n d p q) = true := by
  obtain ⟨d1, _⟩ := okF_out o1
  obtain ⟨q1, _⟩ := okF_out o2
  obtain ⟨x1, x2⟩ := inB_iff.1 h1
  obtain ⟨y1, y2⟩ := inB_iff.1 h2
  have hD : 0 < d * q := Int.mul_pos (by omega) (by omega)
  rw [adE, if_pos ⟨o1, o2⟩] at he
  rw [adN, adD, if_pos ⟨o1, o2⟩, if_pos ⟨o1, o2⟩]
  have u1 := Int.mul_le_mul_of_nonneg_right x1 (show 0 ≤ q by omega)
  have u2 := Int.mul_le_mul_of_nonneg_right x2 (show 0 ≤ q by omega)
  have u3 := Int.mul_le_mul_of_nonneg_right y1 (show 0 ≤ d by omega)
  have u4 := Int.mul_le_mul_of_nonneg_right y2 (show 0 ≤ d by omega)
  refine in_of hD he ?_ ?_ <;> grind
theorem sub_in {a b c e n d p q : Int} (o1 : okF n d = true) (o2 : okF p q = true) (h1 : inB a b n d = true) (h2 : inB c e p q = true) (he : adE n d (-p) q = 0) :
    okF (adN n d (-p) q) (adD n d (-p) q) = true ∧ inB (a - e) (b - c) (adN n d (-p) q) (adD n d (-p) q) = true := by
  have o3 : okF (-p) q = true := by
    obtain ⟨a1, a2, a3, a4, a5⟩ := okF_out o2
    unfold okF
    rw [gcdI_neg]
    simp; omega
  have h3 : inB (-e) (-c) (-p) q = true := by
    obtain ⟨y1, y2⟩ := inB_iff.1 h2
    exact inB_iff.2 ⟨by grind, by grind⟩
  have := add_in o1 o3 h1 h3 he
  rw [Int.sub_eq_add_neg, Int.sub_eq_add_neg]
  exact this
/-- A product of two numbers lies between the least and the greatest product of ends. -/
theorem mul_ends {a b c e x y : Int} (x1 : a ≤ x) (x2 : x ≤ b) (y1 : c ≤ y) (y2 : y ≤ e) : mi4 (a * c) (a * e) (b * c) (b * e) ≤ x * y ∧ x * y ≤ ma4 (a * c) (a * e) (b * c) (b * e) := by
  have lo : a * y ≤ x * y ∨ b * y ≤ x * y := by
    rcases Int.le_total 0 y with h | h
    · exact Or.inl (Int.mul_le_mul_of_nonneg_right x1 h)
    · exact Or.inr (Int.mul_le_mul_of_nonpos_right x2 h)
  have hi : x * y ≤ b * y ∨ x * y ≤ a * y := by
    rcases Int.le_total 0 y with h | h
    · exact Or.inl (Int.mul_le_mul_of_nonneg_right x2 h)
    · exact Or.inr (Int.mul_le_mul_of_nonpos_right x1 h)
  have lin : ∀ k : Int, (k * c ≤ k * y ∧ k * y ≤ k * e) ∨ (k * e ≤ k * y ∧ k * y ≤ k * c) := by
    intro k
    rcases Int.le_total 0 k with h | h
    · exact Or.inl ⟨Int.mul_le_mul_of_nonneg_left y1 h, Int.mul_le_mul_of_nonneg_left y2 h⟩
    · exact Or.inr ⟨Int.mul_le_mul_of_nonpos_left h y2, Int.mul_le_mul_of_nonpos_left h y1⟩
  have la := lin a
  have lb := lin b
  unfold mi4 ma4
  omega
theorem mi4_mul {p q r s k : Int} (hk : 0 ≤ k) : mi4 (p * k) (q * k) (r * k) (s * k) = mi4 p q r s * k := by
  have mo : ∀ u v : Int, u ≤ v → u * k ≤ v * k := fun u v h => Int.mul_le_mul_of_nonneg_right h hk
  have key : ∀ u v : Int, min (u * k) (v * k) = min u v * k := by
    intro u v
    rcases Int.le_total u v with h | h
    · rw [Int.min_eq_left h, Int.min_eq_left (mo _ _ h)]
    · rw [Int.min_eq_right h, Int.min_eq_right (mo _ _ h)]
  unfold mi4; rw [key, key, key]
theorem ma4_mul {p q r s k : Int} (hk : 0 ≤ k) : ma4 (p * k) (q * k) (r * k) (s * k) = ma4 p q r s * k := by
  have mo : ∀ u v : Int, u ≤ v → u * k ≤ v * k := fun u v h => Int.mul_le_mul_of_nonneg_right h hk
  have key : ∀ u v : Int, max (u * k) (v * k) = max u v * k := by
    intro u v
    rcases Int.le_total u v with h | h
    · rw [Int.max_eq_right h, Int.max_eq_right (mo _ _ h)]
    · rw [Int.max_eq_left h, Int.max_eq_left (mo _ _ h)]
  unfold ma4; rw [key, key, key]
theorem mul_in {a b c e n d p q : Int} (o1 : okF n d = true) (o2 : okF p q = true) (h1 : inB a b n d = true) (h2 : inB c e p q = true) (he : muE n d p q = 0) :
    okF (muN n d p q) (muD n d p q) = true ∧ inB (pL a b c e) (pH a b c e) (muN n d p q) (muD n d p q) = true := by
  obtain ⟨d1, _⟩ := okF_out o1
  obtain ⟨q1, _⟩ := okF_out o2
  obtain ⟨x1, x2⟩ := inB_iff.1 h1
  obtain ⟨y1, y2⟩ := inB_iff.1 h2
  have hD : 0 < d * q := Int.mul_pos (by omega) (by omega)
  rw [muE, if_pos ⟨o1, o2⟩] at he
  rw [muN, muD, if_pos ⟨o1, o2⟩, if_pos ⟨o1, o2⟩]
  obtain ⟨m1, m2⟩ := mul_ends x1 x2 y1 y2
  have s1 : a * d * (c * q) = a * c * (d * q) := by grind
  have s2 : a * d * (e * q) = a * e * (d * q) := by grind
  have s3 : b * d * (c * q) = b * c * (d * q) := by grind
  have s4 : b * d * (e * q) = b * e * (d * q) := by grind
  rw [s1, s2, s3, s4, mi4_mul (by omega)] at m1
  rw [s1, s2, s3, s4, ma4_mul (by omega)] at m2
  have t1 : pL a b c e * 1000000 ≤ mi4 (a * c) (a * e) (b * c) (b * e) := by unfold pL mn4; omega
  have t2 : ma4 (a * c) (a * e) (b * c) (b * e) ≤ pH a b c e * 1000000 := by unfold pH mx4; omega
  have v1 := Int.mul_le_mul_of_nonneg_right t1 (show 0 ≤ d * q by omega)
  have v2 := Int.mul_le_mul_of_nonneg_right t2 (show 0 ≤ d * q by omega)
  have w1 : n * 1000000 * (p * 1000000) = n * p * 1000000 * 1000000 := by grind
  have w2 : pL a b c e * 1000000 * (d * q) = pL a b c e * (d * q) * 1000000 := by grind
  have w3 : pH a b c e * 1000000 * (d * q) = pH a b c e * (d * q) * 1000000 := by grind
  refine in_of hD he ?_ ?_ <;> omega
theorem md_out {a b : Int} (h : mdE a b = 0) : mdL a b = a ∧ mdH a b = b ∧ spV a b = true := by
  unfold mdE at h
  by_cases k : spV a b = true
  · rw [mdL, mdH, if_pos k, if_pos k]; exact ⟨rfl, rfl, k⟩
  · rw [if_neg k] at h; omega
/-- The least enclosure of a fraction. -/
theorem of_least {n d : Int} (o : okF n d = true) : inB (ofL n d) (ofH n d) n d = true ∧ (ofL n d < ofH n d → inB (ofL n d) (ofL n d) n d = false ∧ inB (ofH n d) (ofH n d) n d = false) := by
  obtain ⟨d1, _⟩ := okF_out o
  have l1 := (of_le (ofL n d) n d d1).1 (Int.le_refl _)
  have h1 := (of_ge (ofH n d) n d d1).1 (Int.le_refl _)
  refine ⟨inB_iff.2 ⟨l1, h1⟩, fun hlt => ⟨?_, ?_⟩⟩
  · rw [← Bool.not_eq_true, inB_iff]
    intro k
    have := (of_ge (ofL n d) n d d1).2 k.2
    omega
  · rw [← Bool.not_eq_true, inB_iff]
    intro k
    have := (of_le (ofH n d) n d d1).2 k.1
    omega
end Go.Proofs.Ytilcgbloangcmaa
