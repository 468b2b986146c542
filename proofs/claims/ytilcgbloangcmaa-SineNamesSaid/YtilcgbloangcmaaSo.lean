/-
  Words of layer 5: enclosures of fractions (no program is mentioned here).
-/
import Derived.Test.YtilcgbloangcmaaSm
namespace Go.Proofs.Ytilcgbloangcmaa
set_option linter.unusedVariables false
def ofL (n d : Int) : Int := n * 1000000 / d
def ofH (n d : Int) : Int := if n * 1000000 % d = 0 then ofL n d else ofL n d + 1
def ovL (n d : Int) : Int := if okF n d = true then mdL (ofL n d) (ofH n d) else 0
def ovH (n d : Int) : Int := if okF n d = true then mdH (ofL n d) (ofH n d) else 0
def ovE (n d : Int) : Int := if okF n d = true then mdE (ofL n d) (ofH n d) else 8
def inB (a b n d : Int) : Bool := decide (a * d ≤ n * 1000000 ∧ n * 1000000 ≤ b * d)
def haV (a b n d : Int) : Bool := spV a b && (okF n d && inB a b n d)
def haE (a b n d : Int) : Int := if spV a b = true ∧ okF n d = true then 0 else 8
theorem of_le (a n d : Int) (hd : 1 ≤ d) : a ≤ ofL n d ↔ a * d ≤ n * 1000000 := by
  unfold ofL; exact Int.le_ediv_iff_mul_le (by omega)
theorem of_ge (b n d : Int) (hd : 1 ≤ d) : ofH n d ≤ b ↔ n * 1000000 ≤ b * d := by
  have h1 := Int.emod_add_mul_ediv (n * 1000000) d
  have h2 := Int.emod_nonneg (n * 1000000) (show d ≠ 0 by omega)
  have h3 := Int.emod_lt_of_pos (n * 1000000) (show 0 < d by omega)
  unfold ofH ofL
  generalize n * 1000000 / d = q at *
  generalize n * 1000000 % d = r at *
  have e : b * d - n * 1000000 = (b - q) * d - r := by rw [← h1]; grind
  split
  · rename_i h
    subst h
    constructor
    · intro hb
      have := Int.mul_nonneg (show 0 ≤ b - q by omega) (show 0 ≤ d by omega)
      omega
    · intro hb
      have : 0 ≤ (b - q) * d := by omega
      have := Int.nonneg_of_mul_nonneg_left this (by omega)
      omega
  · rename_i h
    constructor
    · intro hb
      have := Int.mul_le_mul_of_nonneg_right (show 1 ≤ b - q by omega) (show 0 ≤ d by omega)
      omega
    · intro hb
      have : 0 < (b - q) * d := by omega
      have := Int.pos_of_mul_pos_left this (by omega)
      omega
theorem of_wid (n d : Int) : ofL n d ≤ ofH n d ∧ ofH n d ≤ ofL n d + 1 := by unfold ofH; split <;> omega
/-- Whole part and rest. -/
theorem of_part (n d q r : Int) (hd : 1 ≤ d) (h : n = q * d + r) : ofL n d = q * 1000000 + r * 1000000 / d ∧ n * 1000000 % d = r * 1000000 % d := by
  have e : n * 1000000 = r * 1000000 + d * (q * 1000000) := by subst h; grind
  unfold ofL
  rw [e, Int.add_mul_ediv_left _ _ (by omega), Int.add_mul_emod_self_left]
  exact ⟨by omega, rfl⟩
theorem step10 (d N n r p : Int) (hd : 1 ≤ d) (h : n * d + r = N * p) : (10 * n + r * 10 / d) * d + r * 10 % d = N * (p * 10) := by
  have e := Int.mul_ediv_add_emod (r * 10) d
  generalize r * 10 / d = q at *
  generalize r * 10 % d = m at *
  grind
theorem of_end (d N n r : Int) (hd : 1 ≤ d) (h0 : 0 ≤ r) (h1 : r < d) (h : n * d + r = N * 1000000) : n = ofL N d ∧ r = N * 1000000 % d := by
  unfold ofL
  rw [← h]
  have e : n * d + r = r + d * n := by rw [Int.mul_comm]; omega
  rw [e, Int.add_mul_ediv_left _ _ (by omega), Int.add_mul_emod_self_left, Int.ediv_eq_zero_of_lt h0 h1, Int.emod_eq_of_lt h0 h1]
  exact ⟨by omega, rfl⟩
end Go.Proofs.Ytilcgbloangcmaa
