/-
  Directions in numbers: turns (no walk).
-/
import Derived.Test.YtmjbeplcabomdaaPb
namespace Go.Proofs.Ytmjbeplcabomdaa
set_option linter.unusedVariables false
set_option linter.unusedSimpArgs false
theorem t720 (d l : Int) : dxL d (l - 720) = dxL d l ∧ dxH d (l - 720) = dxH d l ∧ dyL d (l - 720) = dyL d l ∧ dyH d (l - 720) = dyH d l := by
  have a := c_per (l - 720) 1
  have b := s_per (l - 720) 1
  rw [show l - 720 + 720 * 1 = l by omega] at a b
  unfold dxL dxH dyL dyH
  rw [a.1, a.2, b.1, b.2]
  exact ⟨rfl, rfl, rfl, rfl⟩
theorem sm_negr (a b l h : Int) : smL a b (-h) (-l) = -smH a b l h ∧ smH a b (-h) (-l) = -smL a b l h := by
  obtain ⟨c1, c2, _⟩ := sm_comm a b (-h) (-l)
  obtain ⟨o1, o2, _⟩ := sm_opp l h a b
  obtain ⟨k1, k2, _⟩ := sm_comm l h a b
  rw [c1, c2, o1, o2, k1, k2]
  exact ⟨rfl, rfl⟩
theorem t180 (d l : Int) : dxL d (l - 180) = dyL d l ∧ dxH d (l - 180) = dyH d l ∧ dyL d (l - 180) = -dxH d l ∧ dyH d (l - 180) = -dxL d l := by
  have a := c_quarter l
  have b := s_quarter l
  unfold dxL dxH dyL dyH
  rw [a.1, a.2, b.1, b.2]
  exact ⟨rfl, rfl, (sm_negr _ _ _ _).1, (sm_negr _ _ _ _).2⟩
theorem t360 (d l : Int) : dxL d (l - 360) = -dxH d l ∧ dxH d (l - 360) = -dxL d l ∧ dyL d (l - 360) = -dyH d l ∧ dyH d (l - 360) = -dyL d l := by
  have a := c_half l
  have b := s_half l
  unfold dxL dxH dyL dyH
  rw [a.1, a.2, b.1, b.2]
  exact ⟨(sm_negr _ _ _ _).1, (sm_negr _ _ _ _).2, (sm_negr _ _ _ _).1, (sm_negr _ _ _ _).2⟩
end Go.Proofs.Ytmjbeplcabomdaa
