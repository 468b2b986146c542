/-
  Rotations: what they do to vectors.
-/
import Derived.Test.YtlijkebdaalldaaKu
import Derived.Test.YtlijkebdaalldaaWsf
namespace Go.Proofs.Ytlijkebdaalldaa
open Go.RowKit
set_option linter.unusedVariables false
set_option linter.unusedSimpArgs false

theorem rot_dot {a : Nat} (ha : a < 3) {c s v0 v1 v2 w0 w1 w2 p0 p1 p2 q0 q1 q2 : Rat} (h : c * c + s * s = 1)
    (h0 : p0 = rotV a c s 0 0 * v0 + rotV a c s 0 1 * v1 + rotV a c s 0 2 * v2) (h1 : p1 = rotV a c s 1 0 * v0 + rotV a c s 1 1 * v1 + rotV a c s 1 2 * v2) (h2 : p2 = rotV a c s 2 0 * v0 + rotV a c s 2 1 * v1 + rotV a c s 2 2 * v2)
    (k0 : q0 = rotV a c s 0 0 * w0 + rotV a c s 0 1 * w1 + rotV a c s 0 2 * w2) (k1 : q1 = rotV a c s 1 0 * w0 + rotV a c s 1 1 * w1 + rotV a c s 1 2 * w2) (k2 : q2 = rotV a c s 2 0 * w0 + rotV a c s 2 1 * w1 + rotV a c s 2 2 * w2) :
    v0 * w0 + v1 * w1 + v2 * w2 = p0 * q0 + p1 * q1 + p2 * q2 := by
  rcases (show a = 0 ∨ a = 1 ∨ a = 2 by omega) with rfl | rfl | rfl <;> simp [rotV] at h0 h1 h2 k0 k1 k2 <;> subst h0 h1 h2 k0 k1 k2 <;> grind
theorem rot_back {a : Nat} (ha : a < 3) {c s v0 v1 v2 p0 p1 p2 u0 u1 u2 : Rat} (h : c * c + s * s = 1)
    (h0 : p0 = rotV a c s 0 0 * v0 + rotV a c s 0 1 * v1 + rotV a c s 0 2 * v2) (h1 : p1 = rotV a c s 1 0 * v0 + rotV a c s 1 1 * v1 + rotV a c s 1 2 * v2) (h2 : p2 = rotV a c s 2 0 * v0 + rotV a c s 2 1 * v1 + rotV a c s 2 2 * v2)
    (k0 : u0 = rotV a c s 0 0 * p0 + rotV a c s 1 0 * p1 + rotV a c s 2 0 * p2) (k1 : u1 = rotV a c s 0 1 * p0 + rotV a c s 1 1 * p1 + rotV a c s 2 1 * p2) (k2 : u2 = rotV a c s 0 2 * p0 + rotV a c s 1 2 * p1 + rotV a c s 2 2 * p2) :
    u0 = v0 ∧ u1 = v1 ∧ u2 = v2 := by
  rcases (show a = 0 ∨ a = 1 ∨ a = 2 by omega) with rfl | rfl | rfl <;> simp [rotV] at h0 h1 h2 k0 k1 k2 <;> subst h0 h1 h2 k0 k1 k2 <;> refine ⟨?_, ?_, ?_⟩ <;> grind
theorem okCW_ap {M V : Nat → Int} : okCW (apR M V) := by
  by_cases h : (okM M ∧ okW V) ∧ apE M V = 0
  · obtain ⟨⟨a, b⟩, c⟩ := h
    obtain ⟨x, y, z⟩ := okW_in (q_ap a b c).1
    exact ⟨okC_of x, okC_of y, okC_of z⟩
  · have e : ∀ o, apR M V o = 0 := fun o => by
      unfold apR
      by_cases k : okM M ∧ okW V
      · rw [if_pos k]
        have : ¬ apE0 M V = 0 := fun q => h ⟨k, by unfold apE; rw [if_pos k]; exact q⟩
        unfold vz; rw [if_neg this]
      · rw [if_neg k]
    unfold okCW; rw [e, e, e, e, e, e]; exact ⟨okC_zero, okC_zero, okC_zero⟩
theorem fl_eq {M : Nat → Int} (h : okM M) : flR M = fpP M := funext (fun o => if_pos h)
theorem okCM_fl {M : Nat → Int} (h : okM M) : okM (flR M) := by rw [fl_eq h]; exact (okM_flip h).1
theorem dt_in {a b c d e f g h i j k l : Int} (o1 : okV a b c d e f = true) (o2 : okV g h i j k l = true) (z : dtE a b c d e f g h i j k l = 0) : okF (dtN a b c d e f g h i j k l) (dtD a b c d e f g h i j k l) = true ∧ qv (dtN a b c d e f g h i j k l) (dtD a b c d e f g h i j k l) = qv a b * qv g h + qv c d * qv i j + qv e f * qv k l := by
  have q : okV a b c d e f = true ∧ okV g h i j k l = true := ⟨o1, o2⟩
  rw [dtE, if_pos q] at z
  rw [dtN, dtD, if_pos q, if_pos q]
  exact q_do o1 o2 z
theorem dt_01 {a b c d e f g h i j k l : Int} (o1 : okV a b c d e f = true) (o2 : okV g h i j k l = true) : dtE a b c d e f g h i j k l = 0 ∨ dtE a b c d e f g h i j k l = 16 := by
  have q : okV a b c d e f = true ∧ okV g h i j k l = true := ⟨o1, o2⟩
  rw [dtE, if_pos q]
  exact do_01 o1 o2
end Go.Proofs.Ytlijkebdaalldaa
