/-
  Directions in numbers: their dot product with themselves (no walk).
-/
import Derived.Test.YtmjbeplcabomdaaPa
import Derived.Test.YtmjbeplcabomdaaSh
namespace Go.Proofs.Ytmjbeplcabomdaa
set_option linter.unusedVariables false
set_option linter.unusedSimpArgs false
/-- The direction with a declination and a longitude (both in half degrees). -/
def dxL (d l : Int) : Int := smL (cL d) (cH d) (cL l) (cH l)
def dxH (d l : Int) : Int := smH (cL d) (cH d) (cL l) (cH l)
def dyL (d l : Int) : Int := smL (cL d) (cH d) (sL l) (sH l)
def dyH (d l : Int) : Int := smH (cL d) (cH d) (sL l) (sH l)
/-- A sum of products, and its error. -/
def suR : List (Int × Int × Int × Int) → Int → Int → Int × Int × Int
  | [], l, h => (l, h, 0)
  | (a, b, c, d) :: r, l, h => if smE a b c d = 0 then (if saE l h (smL a b c d) (smH a b c d) = 0 then suR r (saL l h (smL a b c d) (smH a b c d)) (saH l h (smL a b c d) (smH a b c d)) else (0, 0, saE l h (smL a b c d) (smH a b c d))) else (0, 0, smE a b c d)
theorem sm_valid {a b c d : Int} (e : smE a b c d = 0) : spV (smL a b c d) (smH a b c d) = true ∧ bV a b c d = true := by
  unfold smE at e
  by_cases hb : bV a b c d = true
  · rw [if_pos hb] at e
    obtain ⟨e1, e2, e3⟩ := md_out e
    rw [smL, smH, if_pos hb, if_pos hb, e1, e2]
    exact ⟨e3, hb⟩
  · rw [if_neg hb] at e; omega
theorem sa_ok {a b c d : Int} (h1 : spV a b = true) (h2 : spV c d = true) (h3 : spV (a + c) (b + d) = true) : saE a b c d = 0 ∧ saL a b c d = a + c ∧ saH a b c d = b + d := by
  have hb : bV a b c d = true := by rw [bV, h1, h2]; rfl
  rw [saE, saL, saH, if_pos hb, if_pos hb, if_pos hb, mdE, mdL, mdH, if_pos h3, if_pos h3, if_pos h3]
  exact ⟨rfl, rfl, rfl⟩
theorem su_step {a b c d l h : Int} (r : List (Int × Int × Int × Int)) (e : smE a b c d = 0) (hl : spV l h = true) (hv : spV (l + smL a b c d) (h + smH a b c d) = true) :
    suR ((a, b, c, d) :: r) l h = suR r (l + smL a b c d) (h + smH a b c d) := by
  obtain ⟨a1, a2, a3⟩ := sa_ok hl (sm_valid e).1 hv
  rw [suR, if_pos e, if_pos a1, a2, a3]
theorem sp_of {a b : Int} (h1 : a ≤ b) (h2 : -3000000000 ≤ a) (h3 : b ≤ 3000000000) : spV a b = true := by simp [spV]; omega
/-- Three products of numbers that are not great. -/
theorem su_three {a1 b1 c1 d1 a2 b2 c2 d2 a3 b3 c3 d3 : Int} (e1 : smE a1 b1 c1 d1 = 0) (e2 : smE a2 b2 c2 d2 = 0) (e3 : smE a3 b3 c3 d3 = 0)
    (u1 : unitS (smL a1 b1 c1 d1) (smH a1 b1 c1 d1)) (u2 : unitS (smL a2 b2 c2 d2) (smH a2 b2 c2 d2)) (u3 : unitS (smL a3 b3 c3 d3) (smH a3 b3 c3 d3)) :
    suR [(a1, b1, c1, d1), (a2, b2, c2, d2), (a3, b3, c3, d3)] 0 0 = (smL a1 b1 c1 d1 + smL a2 b2 c2 d2 + smL a3 b3 c3 d3, smH a1 b1 c1 d1 + smH a2 b2 c2 d2 + smH a3 b3 c3 d3, 0) := by
  unfold unitS at u1 u2 u3
  rw [su_step _ e1 (sp_of (by omega) (by omega) (by omega)) (sp_of (by omega) (by omega) (by omega)), su_step _ e2 (sp_of (by omega) (by omega) (by omega)) (sp_of (by omega) (by omega) (by omega)), su_step _ e3 (sp_of (by omega) (by omega) (by omega)) (sp_of (by omega) (by omega) (by omega)), suR, Int.zero_add, Int.zero_add]
theorem d_unit (d l : Int) : smE (cL d) (cH d) (cL l) (cH l) = 0 ∧ smE (cL d) (cH d) (sL l) (sH l) = 0 ∧ unitS (dxL d l) (dxH d l) ∧ unitS (dyL d l) (dyH d l) := by
  have m1 := mul_unit (c_unit d).1 (c_unit l).1
  have m2 := mul_unit (c_unit d).1 (c_unit l).2
  exact ⟨m1.1, m2.1, m1.2.1, m2.2.1⟩
end Go.Proofs.Ytmjbeplcabomdaa
