/-
  Products of matrices, and Is, in both packages.  Package vec: circle.  Package vec: the closure of circle: an operation, unless there was an error.
-/
import Derived.Test.YtdolfdmgdknboaaKu
import Derived.Test.YtdolfdmgdknboaaME
import Derived.Test.YtdolfdmgdknboaaMF
import Derived.Test.YtdolfdmgdknboaaMA
import Derived.Lib.Hide
import Derived.Deep.RegionHeld3
import Derived.Deep.DeepCutAuto
namespace Go.Proofs.Ytdolfdmgdknboaa
open Go.RowKit
set_option linter.unusedVariables false
set_option linter.unusedSimpArgs false


theorem tw_sym (a b c d e f g h : Int) : twE a b c d e f g h = twE c d a b g h e f ∧ twN a b c d e f g h = twN c d a b g h e f ∧ twD a b c d e f g h = twD c d a b g h e f := by
  obtain ⟨m1, m2, m3⟩ := mu_comm a b c d
  obtain ⟨n1, n2, n3⟩ := mu_comm e f g h
  unfold twE twN twD
  rw [m1, m2, m3, n1, n2, n3]
  exact ⟨rfl, rfl, rfl⟩
theorem do_sym (a b c d e f g h i j k l : Int) : doE a b c d e f g h i j k l = doE g h i j k l a b c d e f ∧ doN a b c d e f g h i j k l = doN g h i j k l a b c d e f ∧ doD a b c d e f g h i j k l = doD g h i j k l a b c d e f := by
  obtain ⟨m1, m2, m3⟩ := mu_comm e f k l
  obtain ⟨n1, n2, n3⟩ := tw_sym a b g h c d i j
  unfold doE doN doD doF
  rw [m1, m2, m3, n1, n2, n3]
  exact ⟨rfl, rfl, rfl⟩
/-- The errors and numbers of a product. -/
def pE9 (M N : Nat → Int) : Nat → Int
  | 0 => doE (M 0) (M 1) (M 2) (M 3) (M 4) (M 5) (N 0) (N 1) (N 6) (N 7) (N 12) (N 13)
  | 1 => doE (M 0) (M 1) (M 2) (M 3) (M 4) (M 5) (N 2) (N 3) (N 8) (N 9) (N 14) (N 15)
  | 2 => doE (M 0) (M 1) (M 2) (M 3) (M 4) (M 5) (N 4) (N 5) (N 10) (N 11) (N 16) (N 17)
  | 3 => doE (M 6) (M 7) (M 8) (M 9) (M 10) (M 11) (N 0) (N 1) (N 6) (N 7) (N 12) (N 13)
  | 4 => doE (M 6) (M 7) (M 8) (M 9) (M 10) (M 11) (N 2) (N 3) (N 8) (N 9) (N 14) (N 15)
  | 5 => doE (M 6) (M 7) (M 8) (M 9) (M 10) (M 11) (N 4) (N 5) (N 10) (N 11) (N 16) (N 17)
  | 6 => doE (M 12) (M 13) (M 14) (M 15) (M 16) (M 17) (N 0) (N 1) (N 6) (N 7) (N 12) (N 13)
  | 7 => doE (M 12) (M 13) (M 14) (M 15) (M 16) (M 17) (N 2) (N 3) (N 8) (N 9) (N 14) (N 15)
  | _ => doE (M 12) (M 13) (M 14) (M 15) (M 16) (M 17) (N 4) (N 5) (N 10) (N 11) (N 16) (N 17)
def pL (M N : Nat → Int) : Nat → Int
  | 0 => doN (M 0) (M 1) (M 2) (M 3) (M 4) (M 5) (N 0) (N 1) (N 6) (N 7) (N 12) (N 13)
  | 1 => doD (M 0) (M 1) (M 2) (M 3) (M 4) (M 5) (N 0) (N 1) (N 6) (N 7) (N 12) (N 13)
  | 2 => doN (M 0) (M 1) (M 2) (M 3) (M 4) (M 5) (N 2) (N 3) (N 8) (N 9) (N 14) (N 15)
  | 3 => doD (M 0) (M 1) (M 2) (M 3) (M 4) (M 5) (N 2) (N 3) (N 8) (N 9) (N 14) (N 15)
  | 4 => doN (M 0) (M 1) (M 2) (M 3) (M 4) (M 5) (N 4) (N 5) (N 10) (N 11) (N 16) (N 17)
  | 5 => doD (M 0) (M 1) (M 2) (M 3) (M 4) (M 5) (N 4) (N 5) (N 10) (N 11) (N 16) (N 17)
  | 6 => doN (M 6) (M 7) (M 8) (M 9) (M 10) (M 11) (N 0) (N 1) (N 6) (N 7) (N 12) (N 13)
  | 7 => doD (M 6) (M 7) (M 8) (M 9) (M 10) (M 11) (N 0) (N 1) (N 6) (N 7) (N 12) (N 13)
  | 8 => doN (M 6) (M 7) (M 8) (M 9) (M 10) (M 11) (N 2) (N 3) (N 8) (N 9) (N 14) (N 15)
  | 9 => doD (M 6) (M 7) (M 8) (M 9) (M 10) (M 11) (N 2) (N 3) (N 8) (N 9) (N 14) (N 15)
  | 10 => doN (M 6) (M 7) (M 8) (M 9) (M 10) (M 11) (N 4) (N 5) (N 10) (N 11) (N 16) (N 17)
  | 11 => doD (M 6) (M 7) (M 8) (M 9) (M 10) (M 11) (N 4) (N 5) (N 10) (N 11) (N 16) (N 17)
  | 12 => doN (M 12) (M 13) (M 14) (M 15) (M 16) (M 17) (N 0) (N 1) (N 6) (N 7) (N 12) (N 13)
  | 13 => doD (M 12) (M 13) (M 14) (M 15) (M 16) (M 17) (N 0) (N 1) (N 6) (N 7) (N 12) (N 13)
  | 14 => doN (M 12) (M 13) (M 14) (M 15) (M 16) (M 17) (N 2) (N 3) (N 8) (N 9) (N 14) (N 15)
  | 15 => doD (M 12) (M 13) (M 14) (M 15) (M 16) (M 17) (N 2) (N 3) (N 8) (N 9) (N 14) (N 15)
  | 16 => doN (M 12) (M 13) (M 14) (M 15) (M 16) (M 17) (N 4) (N 5) (N 10) (N 11) (N 16) (N 17)
  | _ => doD (M 12) (M 13) (M 14) (M 15) (M 16) (M 17) (N 4) (N 5) (N 10) (N 11) (N 16) (N 17)
def pE3 (M N : Nat → Int) : Nat → Int
  | 0 => fsI (doE (N 0) (N 1) (N 6) (N 7) (N 12) (N 13) (M 0) (M 1) (M 2) (M 3) (M 4) (M 5)) (doE (N 2) (N 3) (N 8) (N 9) (N 14) (N 15) (M 0) (M 1) (M 2) (M 3) (M 4) (M 5)) (doE (N 4) (N 5) (N 10) (N 11) (N 16) (N 17) (M 0) (M 1) (M 2) (M 3) (M 4) (M 5))
  | 1 => fsI (doE (N 0) (N 1) (N 6) (N 7) (N 12) (N 13) (M 6) (M 7) (M 8) (M 9) (M 10) (M 11)) (doE (N 2) (N 3) (N 8) (N 9) (N 14) (N 15) (M 6) (M 7) (M 8) (M 9) (M 10) (M 11)) (doE (N 4) (N 5) (N 10) (N 11) (N 16) (N 17) (M 6) (M 7) (M 8) (M 9) (M 10) (M 11))
  | _ => fsI (doE (N 0) (N 1) (N 6) (N 7) (N 12) (N 13) (M 12) (M 13) (M 14) (M 15) (M 16) (M 17)) (doE (N 2) (N 3) (N 8) (N 9) (N 14) (N 15) (M 12) (M 13) (M 14) (M 15) (M 16) (M 17)) (doE (N 4) (N 5) (N 10) (N 11) (N 16) (N 17) (M 12) (M 13) (M 14) (M 15) (M 16) (M 17))
def pL3 (M N : Nat → Int) : Nat → Int
  | 0 => vz (pE3 M N 0) (doN (N 0) (N 1) (N 6) (N 7) (N 12) (N 13) (M 0) (M 1) (M 2) (M 3) (M 4) (M 5))
  | 1 => vz (pE3 M N 0) (doD (N 0) (N 1) (N 6) (N 7) (N 12) (N 13) (M 0) (M 1) (M 2) (M 3) (M 4) (M 5))
  | 2 => vz (pE3 M N 0) (doN (N 2) (N 3) (N 8) (N 9) (N 14) (N 15) (M 0) (M 1) (M 2) (M 3) (M 4) (M 5))
  | 3 => vz (pE3 M N 0) (doD (N 2) (N 3) (N 8) (N 9) (N 14) (N 15) (M 0) (M 1) (M 2) (M 3) (M 4) (M 5))
  | 4 => vz (pE3 M N 0) (doN (N 4) (N 5) (N 10) (N 11) (N 16) (N 17) (M 0) (M 1) (M 2) (M 3) (M 4) (M 5))
  | 5 => vz (pE3 M N 0) (doD (N 4) (N 5) (N 10) (N 11) (N 16) (N 17) (M 0) (M 1) (M 2) (M 3) (M 4) (M 5))
  | 6 => vz (pE3 M N 1) (doN (N 0) (N 1) (N 6) (N 7) (N 12) (N 13) (M 6) (M 7) (M 8) (M 9) (M 10) (M 11))
  | 7 => vz (pE3 M N 1) (doD (N 0) (N 1) (N 6) (N 7) (N 12) (N 13) (M 6) (M 7) (M 8) (M 9) (M 10) (M 11))
  | 8 => vz (pE3 M N 1) (doN (N 2) (N 3) (N 8) (N 9) (N 14) (N 15) (M 6) (M 7) (M 8) (M 9) (M 10) (M 11))
  | 9 => vz (pE3 M N 1) (doD (N 2) (N 3) (N 8) (N 9) (N 14) (N 15) (M 6) (M 7) (M 8) (M 9) (M 10) (M 11))
  | 10 => vz (pE3 M N 1) (doN (N 4) (N 5) (N 10) (N 11) (N 16) (N 17) (M 6) (M 7) (M 8) (M 9) (M 10) (M 11))
  | 11 => vz (pE3 M N 1) (doD (N 4) (N 5) (N 10) (N 11) (N 16) (N 17) (M 6) (M 7) (M 8) (M 9) (M 10) (M 11))
  | 12 => vz (pE3 M N 2) (doN (N 0) (N 1) (N 6) (N 7) (N 12) (N 13) (M 12) (M 13) (M 14) (M 15) (M 16) (M 17))
  | 13 => vz (pE3 M N 2) (doD (N 0) (N 1) (N 6) (N 7) (N 12) (N 13) (M 12) (M 13) (M 14) (M 15) (M 16) (M 17))
  | 14 => vz (pE3 M N 2) (doN (N 2) (N 3) (N 8) (N 9) (N 14) (N 15) (M 12) (M 13) (M 14) (M 15) (M 16) (M 17))
  | 15 => vz (pE3 M N 2) (doD (N 2) (N 3) (N 8) (N 9) (N 14) (N 15) (M 12) (M 13) (M 14) (M 15) (M 16) (M 17))
  | 16 => vz (pE3 M N 2) (doN (N 4) (N 5) (N 10) (N 11) (N 16) (N 17) (M 12) (M 13) (M 14) (M 15) (M 16) (M 17))
  | _ => vz (pE3 M N 2) (doD (N 4) (N 5) (N 10) (N 11) (N 16) (N 17) (M 12) (M 13) (M 14) (M 15) (M 16) (M 17))
theorem pE3_eq (M N : Nat → Int) : pE3 M N 0 = fsI (pE9 M N 0) (pE9 M N 1) (pE9 M N 2) ∧ pE3 M N 1 = fsI (pE9 M N 3) (pE9 M N 4) (pE9 M N 5) ∧ pE3 M N 2 = fsI (pE9 M N 6) (pE9 M N 7) (pE9 M N 8) := by
  refine ⟨?_, ?_, ?_⟩
  · show fsI (doE (N 0) (N 1) (N 6) (N 7) (N 12) (N 13) (M 0) (M 1) (M 2) (M 3) (M 4) (M 5)) (doE (N 2) (N 3) (N 8) (N 9) (N 14) (N 15) (M 0) (M 1) (M 2) (M 3) (M 4) (M 5)) (doE (N 4) (N 5) (N 10) (N 11) (N 16) (N 17) (M 0) (M 1) (M 2) (M 3) (M 4) (M 5)) = fsI (doE (M 0) (M 1) (M 2) (M 3) (M 4) (M 5) (N 0) (N 1) (N 6) (N 7) (N 12) (N 13)) (doE (M 0) (M 1) (M 2) (M 3) (M 4) (M 5) (N 2) (N 3) (N 8) (N 9) (N 14) (N 15)) (doE (M 0) (M 1) (M 2) (M 3) (M 4) (M 5) (N 4) (N 5) (N 10) (N 11) (N 16) (N 17))
    rw [(do_sym (N 0) (N 1) (N 6) (N 7) (N 12) (N 13) (M 0) (M 1) (M 2) (M 3) (M 4) (M 5)).1, (do_sym (N 2) (N 3) (N 8) (N 9) (N 14) (N 15) (M 0) (M 1) (M 2) (M 3) (M 4) (M 5)).1, (do_sym (N 4) (N 5) (N 10) (N 11) (N 16) (N 17) (M 0) (M 1) (M 2) (M 3) (M 4) (M 5)).1]
  · show fsI (doE (N 0) (N 1) (N 6) (N 7) (N 12) (N 13) (M 6) (M 7) (M 8) (M 9) (M 10) (M 11)) (doE (N 2) (N 3) (N 8) (N 9) (N 14) (N 15) (M 6) (M 7) (M 8) (M 9) (M 10) (M 11)) (doE (N 4) (N 5) (N 10) (N 11) (N 16) (N 17) (M 6) (M 7) (M 8) (M 9) (M 10) (M 11)) = fsI (doE (M 6) (M 7) (M 8) (M 9) (M 10) (M 11) (N 0) (N 1) (N 6) (N 7) (N 12) (N 13)) (doE (M 6) (M 7) (M 8) (M 9) (M 10) (M 11) (N 2) (N 3) (N 8) (N 9) (N 14) (N 15)) (doE (M 6) (M 7) (M 8) (M 9) (M 10) (M 11) (N 4) (N 5) (N 10) (N 11) (N 16) (N 17))
    rw [(do_sym (N 0) (N 1) (N 6) (N 7) (N 12) (N 13) (M 6) (M 7) (M 8) (M 9) (M 10) (M 11)).1, (do_sym (N 2) (N 3) (N 8) (N 9) (N 14) (N 15) (M 6) (M 7) (M 8) (M 9) (M 10) (M 11)).1, (do_sym (N 4) (N 5) (N 10) (N 11) (N 16) (N 17) (M 6) (M 7) (M 8) (M 9) (M 10) (M 11)).1]
  · show fsI (doE (N 0) (N 1) (N 6) (N 7) (N 12) (N 13) (M 12) (M 13) (M 14) (M 15) (M 16) (M 17)) (doE (N 2) (N 3) (N 8) (N 9) (N 14) (N 15) (M 12) (M 13) (M 14) (M 15) (M 16) (M 17)) (doE (N 4) (N 5) (N 10) (N 11) (N 16) (N 17) (M 12) (M 13) (M 14) (M 15) (M 16) (M 17)) = fsI (doE (M 12) (M 13) (M 14) (M 15) (M 16) (M 17) (N 0) (N 1) (N 6) (N 7) (N 12) (N 13)) (doE (M 12) (M 13) (M 14) (M 15) (M 16) (M 17) (N 2) (N 3) (N 8) (N 9) (N 14) (N 15)) (doE (M 12) (M 13) (M 14) (M 15) (M 16) (M 17) (N 4) (N 5) (N 10) (N 11) (N 16) (N 17))
    rw [(do_sym (N 0) (N 1) (N 6) (N 7) (N 12) (N 13) (M 12) (M 13) (M 14) (M 15) (M 16) (M 17)).1, (do_sym (N 2) (N 3) (N 8) (N 9) (N 14) (N 15) (M 12) (M 13) (M 14) (M 15) (M 16) (M 17)).1, (do_sym (N 4) (N 5) (N 10) (N 11) (N 16) (N 17) (M 12) (M 13) (M 14) (M 15) (M 16) (M 17)).1]
theorem feI_39 (E F : Nat → Int) (h0 : F 0 = fsI (E 0) (E 1) (E 2)) (h1 : F 1 = fsI (E 3) (E 4) (E 5)) (h2 : F 2 = fsI (E 6) (E 7) (E 8)) : feI F 3 = feI E 9 := by
  simp only [feI, h0, h1, h2, fsI]
  by_cases a0 : E 0 = 0 <;> by_cases a1 : E 1 = 0 <;> by_cases a2 : E 2 = 0 <;> simp [a0, a1, a2]
  by_cases a3 : E 3 = 0 <;> by_cases a4 : E 4 = 0 <;> by_cases a5 : E 5 = 0 <;> simp [a3, a4, a5]
  by_cases a6 : E 6 = 0 <;> by_cases a7 : E 7 = 0 <;> by_cases a8 : E 8 = 0 <;> simp [a6, a7, a8]
theorem pE_eq (M N : Nat → Int) : feI (pE3 M N) 3 = feI (pE9 M N) 9 := feI_39 _ _ (pE3_eq M N).1 (pE3_eq M N).2.1 (pE3_eq M N).2.2
theorem feI_all {E : Nat → Int} {n : Nat} (h : feI E n = 0) : ∀ k, k < n → E k = 0 := by
  induction n with
  | zero => intro k hk; omega
  | succ n ih =>
    intro k hk
    rw [feI] at h
    by_cases q : feI E n = 0
    · rw [if_pos q] at h
      by_cases r : k = n
      · subst r; exact h
      · exact ih q k (by omega)
    · rw [if_neg q] at h; exact absurd h q
theorem pR_eq (M N : Nat → Int) : ∀ o, o < 18 → dtsR (pE3 M N) (pL3 M N) o = prR (pE9 M N) (pL M N) o := by
  intro o ho
  unfold dtsR prR
  rw [pE_eq]
  by_cases q : feI (pE9 M N) 9 = 0
  · rw [q, vz0, vz0]
    have e3 := feI_all (by rw [pE_eq]; exact q : feI (pE3 M N) 3 = 0)
    have e0 := e3 0 (by omega); have e1 := e3 1 (by omega); have e2 := e3 2 (by omega)
    revert ho; revert o
    apply cases18
    · show vz (pE3 M N 0) (doN (N 0) (N 1) (N 6) (N 7) (N 12) (N 13) (M 0) (M 1) (M 2) (M 3) (M 4) (M 5)) = doN (M 0) (M 1) (M 2) (M 3) (M 4) (M 5) (N 0) (N 1) (N 6) (N 7) (N 12) (N 13)
      rw [e0, vz0, (do_sym (N 0) (N 1) (N 6) (N 7) (N 12) (N 13) (M 0) (M 1) (M 2) (M 3) (M 4) (M 5)).2.1]
    · show vz (pE3 M N 0) (doD (N 0) (N 1) (N 6) (N 7) (N 12) (N 13) (M 0) (M 1) (M 2) (M 3) (M 4) (M 5)) = doD (M 0) (M 1) (M 2) (M 3) (M 4) (M 5) (N 0) (N 1) (N 6) (N 7) (N 12) (N 13)
      rw [e0, vz0, (do_sym (N 0) (N 1) (N 6) (N 7) (N 12) (N 13) (M 0) (M 1) (M 2) (M 3) (M 4) (M 5)).2.2]
    · show vz (pE3 M N 0) (doN (N 2) (N 3) (N 8) (N 9) (N 14) (N 15) (M 0) (M 1) (M 2) (M 3) (M 4) (M 5)) = doN (M 0) (M 1) (M 2) (M 3) (M 4) (M 5) (N 2) (N 3) (N 8) (N 9) (N 14) (N 15)
      rw [e0, vz0, (do_sym (N 2) (N 3) (N 8) (N 9) (N 14) (N 15) (M 0) (M 1) (M 2) (M 3) (M 4) (M 5)).2.1]
    · show vz (pE3 M N 0) (doD (N 2) (N 3) (N 8) (N 9) (N 14) (N 15) (M 0) (M 1) (M 2) (M 3) (M 4) (M 5)) = doD (M 0) (M 1) (M 2) (M 3) (M 4) (M 5) (N 2) (N 3) (N 8) (N 9) (N 14) (N 15)
      rw [e0, vz0, (do_sym (N 2) (N 3) (N 8) (N 9) (N 14) (N 15) (M 0) (M 1) (M 2) (M 3) (M 4) (M 5)).2.2]
    · show vz (pE3 M N 0) (doN (N 4) (N 5) (N 10) (N 11) (N 16) (N 17) (M 0) (M 1) (M 2) (M 3) (M 4) (M 5)) = doN (M 0) (M 1) (M 2) (M 3) (M 4) (M 5) (N 4) (N 5) (N 10) (N 11) (N 16) (N 17)
      rw [e0, vz0, (do_sym (N 4) (N 5) (N 10) (N 11) (N 16) (N 17) (M 0) (M 1) (M 2) (M 3) (M 4) (M 5)).2.1]
    · show vz (pE3 M N 0) (doD (N 4) (N 5) (N 10) (N 11) (N 16) (N 17) (M 0) (M 1) (M 2) (M 3) (M 4) (M 5)) = doD (M 0) (M 1) (M 2) (M 3) (M 4) (M 5) (N 4) (N 5) (N 10) (N 11) (N 16) (N 17)
      rw [e0, vz0, (do_sym (N 4) (N 5) (N 10) (N 11) (N 16) (N 17) (M 0) (M 1) (M 2) (M 3) (M 4) (M 5)).2.2]
    · show vz (pE3 M N 1) (doN (N 0) (N 1) (N 6) (N 7) (N 12) (N 13) (M 6) (M 7) (M 8) (M 9) (M 10) (M 11)) = doN (M 6) (M 7) (M 8) (M 9) (M 10) (M 11) (N 0) (N 1) (N 6) (N 7) (N 12) (N 13)
      rw [e1, vz0, (do_sym (N 0) (N 1) (N 6) (N 7) (N 12) (N 13) (M 6) (M 7) (M 8) (M 9) (M 10) (M 11)).2.1]
    · show vz (pE3 M N 1) (doD (N 0) (N 1) (N 6) (N 7) (N 12) (N 13) (M 6) (M 7) (M 8) (M 9) (M 10) (M 11)) = doD (M 6) (M 7) (M 8) (M 9) (M 10) (M 11) (N 0) (N 1) (N 6) (N 7) (N 12) (N 13)
      rw [e1, vz0, (do_sym (N 0) (N 1) (N 6) (N 7) (N 12) (N 13) (M 6) (M 7) (M 8) (M 9) (M 10) (M 11)).2.2]
    · show vz (pE3 M N 1) (doN (N 2) (N 3) (N 8) (N 9) (N 14) (N 15) (M 6) (M 7) (M 8) (M 9) (M 10) (M 11)) = doN (M 6) (M 7) (M 8) (M 9) (M 10) (M 11) (N 2) (N 3) (N 8) (N 9) (N 14) (N 15)
      rw [e1, vz0, (do_sym (N 2) (N 3) (N 8) (N 9) (N 14) (N 15) (M 6) (M 7) (M 8) (M 9) (M 10) (M 11)).2.1]
    · show vz (pE3 M N 1) (doD (N 2) (N 3) (N 8) (N 9) (N 14) (N 15) (M 6) (M 7) (M 8) (M 9) (M 10) (M 11)) = doD (M 6) (M 7) (M 8) (M 9) (M 10) (M 11) (N 2) (N 3) (N 8) (N 9) (N 14) (N 15)
      rw [e1, vz0, (do_sym (N 2) (N 3) (N 8) (N 9) (N 14) (N 15) (M 6) (M 7) (M 8) (M 9) (M 10) (M 11)).2.2]
    · show vz (pE3 M N 1) (doN (N 4) (N 5) (N 10) (N 11) (N 16) (N 17) (M 6) (M 7) (M 8) (M 9) (M 10) (M 11)) = doN (M 6) (M 7) (M 8) (M 9) (M 10) (M 11) (N 4) (N 5) (N 10) (N 11) (N 16) (N 17)
      rw [e1, vz0, (do_sym (N 4) (N 5) (N 10) (N 11) (N 16) (N 17) (M 6) (M 7) (M 8) (M 9) (M 10) (M 11)).2.1]
    · show vz (pE3 M N 1) (doD (N 4) (N 5) (N 10) (N 11) (N 16) (N 17) (M 6) (M 7) (M 8) (M 9) (M 10) (M 11)) = doD (M 6) (M 7) (M 8) (M 9) (M 10) (M 11) (N 4) (N 5) (N 10) (N 11) (N 16) (N 17)
      rw [e1, vz0, (do_sym (N 4) (N 5) (N 10) (N 11) (N 16) (N 17) (M 6) (M 7) (M 8) (M 9) (M 10) (M 11)).2.2]
    · show vz (pE3 M N 2) (doN (N 0) (N 1) (N 6) (N 7) (N 12) (N 13) (M 12) (M 13) (M 14) (M 15) (M 16) (M 17)) = doN (M 12) (M 13) (M 14) (M 15) (M 16) (M 17) (N 0) (N 1) (N 6) (N 7) (N 12) (N 13)
      rw [e2, vz0, (do_sym (N 0) (N 1) (N 6) (N 7) (N 12) (N 13) (M 12) (M 13) (M 14) (M 15) (M 16) (M 17)).2.1]
    · show vz (pE3 M N 2) (doD (N 0) (N 1) (N 6) (N 7) (N 12) (N 13) (M 12) (M 13) (M 14) (M 15) (M 16) (M 17)) = doD (M 12) (M 13) (M 14) (M 15) (M 16) (M 17) (N 0) (N 1) (N 6) (N 7) (N 12) (N 13)
      rw [e2, vz0, (do_sym (N 0) (N 1) (N 6) (N 7) (N 12) (N 13) (M 12) (M 13) (M 14) (M 15) (M 16) (M 17)).2.2]
    · show vz (pE3 M N 2) (doN (N 2) (N 3) (N 8) (N 9) (N 14) (N 15) (M 12) (M 13) (M 14) (M 15) (M 16) (M 17)) = doN (M 12) (M 13) (M 14) (M 15) (M 16) (M 17) (N 2) (N 3) (N 8) (N 9) (N 14) (N 15)
      rw [e2, vz0, (do_sym (N 2) (N 3) (N 8) (N 9) (N 14) (N 15) (M 12) (M 13) (M 14) (M 15) (M 16) (M 17)).2.1]
    · show vz (pE3 M N 2) (doD (N 2) (N 3) (N 8) (N 9) (N 14) (N 15) (M 12) (M 13) (M 14) (M 15) (M 16) (M 17)) = doD (M 12) (M 13) (M 14) (M 15) (M 16) (M 17) (N 2) (N 3) (N 8) (N 9) (N 14) (N 15)
      rw [e2, vz0, (do_sym (N 2) (N 3) (N 8) (N 9) (N 14) (N 15) (M 12) (M 13) (M 14) (M 15) (M 16) (M 17)).2.2]
    · show vz (pE3 M N 2) (doN (N 4) (N 5) (N 10) (N 11) (N 16) (N 17) (M 12) (M 13) (M 14) (M 15) (M 16) (M 17)) = doN (M 12) (M 13) (M 14) (M 15) (M 16) (M 17) (N 4) (N 5) (N 10) (N 11) (N 16) (N 17)
      rw [e2, vz0, (do_sym (N 4) (N 5) (N 10) (N 11) (N 16) (N 17) (M 12) (M 13) (M 14) (M 15) (M 16) (M 17)).2.1]
    · show vz (pE3 M N 2) (doD (N 4) (N 5) (N 10) (N 11) (N 16) (N 17) (M 12) (M 13) (M 14) (M 15) (M 16) (M 17)) = doD (M 12) (M 13) (M 14) (M 15) (M 16) (M 17) (N 4) (N 5) (N 10) (N 11) (N 16) (N 17)
      rw [e2, vz0, (do_sym (N 4) (N 5) (N 10) (N 11) (N 16) (N 17) (M 12) (M 13) (M 14) (M 15) (M 16) (M 17)).2.2]
  · rw [vzn q, vzn q]
theorem okM_flip {N : Nat → Int} (h : okM N) : okM (fpP N) ∧ (okV (N 0) (N 1) (N 6) (N 7) (N 12) (N 13) = true ∧ okV (N 2) (N 3) (N 8) (N 9) (N 14) (N 15) = true ∧ okV (N 4) (N 5) (N 10) (N 11) (N 16) (N 17) = true) := by
  obtain ⟨u1, u2, u3⟩ := okM_row N h
  obtain ⟨a1, a2, a3⟩ := okV_in u1
  obtain ⟨b1, b2, b3⟩ := okV_in u2
  obtain ⟨c1, c2, c3⟩ := okV_in u3
  have v1 : okV (N 0) (N 1) (N 6) (N 7) (N 12) (N 13) = true := by unfold okV; rw [a1, b1, c1]; rfl
  have v2 : okV (N 2) (N 3) (N 8) (N 9) (N 14) (N 15) = true := by unfold okV; rw [a2, b2, c2]; rfl
  have v3 : okV (N 4) (N 5) (N 10) (N 11) (N 16) (N 17) = true := by unfold okV; rw [a3, b3, c3]; rfl
  exact ⟨okM_of v1 v2 v3, v1, v2, v3⟩
theorem mtx_eq {P Q : Nat → Int} (h : ∀ o, o < 18 → P o = Q o) : (.agg #[.int .i64 (P 0), .int .i64 (P 1), .int .i64 (P 2), .int .i64 (P 3), .int .i64 (P 4), .int .i64 (P 5), .int .i64 (P 6), .int .i64 (P 7), .int .i64 (P 8), .int .i64 (P 9), .int .i64 (P 10), .int .i64 (P 11), .int .i64 (P 12), .int .i64 (P 13), .int .i64 (P 14), .int .i64 (P 15), .int .i64 (P 16), .int .i64 (P 17)] : Value) = .agg #[.int .i64 (Q 0), .int .i64 (Q 1), .int .i64 (Q 2), .int .i64 (Q 3), .int .i64 (Q 4), .int .i64 (Q 5), .int .i64 (Q 6), .int .i64 (Q 7), .int .i64 (Q 8), .int .i64 (Q 9), .int .i64 (Q 10), .int .i64 (Q 11), .int .i64 (Q 12), .int .i64 (Q 13), .int .i64 (Q 14), .int .i64 (Q 15), .int .i64 (Q 16), .int .i64 (Q 17)] := by
  rw [h 0 (by omega), h 1 (by omega), h 2 (by omega), h 3 (by omega), h 4 (by omega), h 5 (by omega), h 6 (by omega), h 7 (by omega), h 8 (by omega), h 9 (by omega), h 10 (by omega), h 11 (by omega), h 12 (by omega), h 13 (by omega), h 14 (by omega), h 15 (by omega), h 16 (by omega), h 17 (by omega)]
theorem dots_pr (M N : Nat → Int) (hM : okM M) (hN : okM N) (w : World) :
    Calls Try.prog 53 #[.agg #[.int .i64 (M 0), .int .i64 (M 1), .int .i64 (M 2), .int .i64 (M 3), .int .i64 (M 4), .int .i64 (M 5), .int .i64 (M 6), .int .i64 (M 7), .int .i64 (M 8), .int .i64 (M 9), .int .i64 (M 10), .int .i64 (M 11), .int .i64 (M 12), .int .i64 (M 13), .int .i64 (M 14), .int .i64 (M 15), .int .i64 (M 16), .int .i64 (M 17)], .agg #[.int .i64 ((fpP N) 0), .int .i64 ((fpP N) 1), .int .i64 ((fpP N) 2), .int .i64 ((fpP N) 3), .int .i64 ((fpP N) 4), .int .i64 ((fpP N) 5), .int .i64 ((fpP N) 6), .int .i64 ((fpP N) 7), .int .i64 ((fpP N) 8), .int .i64 ((fpP N) 9), .int .i64 ((fpP N) 10), .int .i64 ((fpP N) 11), .int .i64 ((fpP N) 12), .int .i64 ((fpP N) 13), .int .i64 ((fpP N) 14), .int .i64 ((fpP N) 15), .int .i64 ((fpP N) 16), .int .i64 ((fpP N) 17)]] w fun x w' => x = .returned (.tuple #[.agg #[.int .i64 ((prR (pE9 M N) (pL M N)) 0), .int .i64 ((prR (pE9 M N) (pL M N)) 1), .int .i64 ((prR (pE9 M N) (pL M N)) 2), .int .i64 ((prR (pE9 M N) (pL M N)) 3), .int .i64 ((prR (pE9 M N) (pL M N)) 4), .int .i64 ((prR (pE9 M N) (pL M N)) 5), .int .i64 ((prR (pE9 M N) (pL M N)) 6), .int .i64 ((prR (pE9 M N) (pL M N)) 7), .int .i64 ((prR (pE9 M N) (pL M N)) 8), .int .i64 ((prR (pE9 M N) (pL M N)) 9), .int .i64 ((prR (pE9 M N) (pL M N)) 10), .int .i64 ((prR (pE9 M N) (pL M N)) 11), .int .i64 ((prR (pE9 M N) (pL M N)) 12), .int .i64 ((prR (pE9 M N) (pL M N)) 13), .int .i64 ((prR (pE9 M N) (pL M N)) 14), .int .i64 ((prR (pE9 M N) (pL M N)) 15), .int .i64 ((prR (pE9 M N) (pL M N)) 16), .int .i64 ((prR (pE9 M N) (pL M N)) 17)], .int .i64 (feI (pE9 M N) 9)]) ∧ Below w.heap.size w w' := by
  obtain ⟨hF, -⟩ := okM_flip hN
  obtain ⟨u1, u2, u3⟩ := okM_row M hM
  have := vec_dots M (fpP N) (pL3 M N) (pE3 M N) (fun w => vec_apply (fpP N) (M 0) (M 1) (M 2) (M 3) (M 4) (M 5) hF u1 w) (fun w => vec_apply (fpP N) (M 6) (M 7) (M 8) (M 9) (M 10) (M 11) hF u2 w) (fun w => vec_apply (fpP N) (M 12) (M 13) (M 14) (M 15) (M 16) (M 17) hF u3 w) w
  rw [mtx_eq (pR_eq M N), pE_eq] at this
  exact this
theorem check6 (M N : Nat → Int) (hM : okCM M) (hN : okCM N) (W : World) (g cap : Nat) (hg : g < W.heap.size) (hc : ∀ o, o < 36 → W.cell? ⟨g, o, none⟩ = some (.int .i64 (if o < 18 then M o else N (o - 18)))) :
    Calls Try.prog 45 #[.slice (some ⟨g, 0, none⟩) 6 cap] W fun x w' => x = .returned (.int .i64 (if okM M ∧ okM N then 0 else 8)) ∧ Below W.heap.size W w' := by
  have := vec_check (cat M N) g cap 6 (by omega) (okC_cat M N 3 hM hN) W hg (fun o ho => hc o (by omega))
  have e : (∀ i, i < 6 → rowOk (cat M N) i) ↔ (okM M ∧ okM N) := by
    constructor
    · intro h
      exact ⟨fun i hi => by rw [← rowOk_lo M N i hi]; exact h i (by omega), fun i hi => by rw [← rowOk_hi M N i]; exact h (i + 3) (by omega)⟩
    · rintro ⟨h, k⟩ i hi
      by_cases q : i < 3
      · rw [rowOk_lo M N i q]; exact h i q
      · obtain ⟨j, rfl⟩ : ∃ j, i = j + 3 := ⟨i - 3, by omega⟩
        rw [rowOk_hi]; exact k j (by omega)
  have r : rowsE (cat M N) 6 = if okM M ∧ okM N then 0 else 8 := by
    unfold rowsE
    by_cases q : okM M ∧ okM N
    · rw [if_pos q, if_pos (e.2 q)]
    · rw [if_neg q, if_neg (fun h => q (e.1 h))]
  rw [r] at this
  exact this
/-- The product of two matrices: numbers, error. -/
def pmR (M N : Nat → Int) : Nat → Int := fun o => if okM M ∧ okM N then prR (pE9 M N) (pL M N) o else 0
def pmE (M N : Nat → Int) : Int := if okM M ∧ okM N then feI (pE9 M N) 9 else 8
theorem vec_ProdM (M N : Nat → Int) (hM : okCM M) (hN : okCM N) (w : World) :
    Calls Try.prog 12 #[.agg #[.int .i64 (M 0), .int .i64 (M 1), .int .i64 (M 2), .int .i64 (M 3), .int .i64 (M 4), .int .i64 (M 5), .int .i64 (M 6), .int .i64 (M 7), .int .i64 (M 8), .int .i64 (M 9), .int .i64 (M 10), .int .i64 (M 11), .int .i64 (M 12), .int .i64 (M 13), .int .i64 (M 14), .int .i64 (M 15), .int .i64 (M 16), .int .i64 (M 17)], .agg #[.int .i64 (N 0), .int .i64 (N 1), .int .i64 (N 2), .int .i64 (N 3), .int .i64 (N 4), .int .i64 (N 5), .int .i64 (N 6), .int .i64 (N 7), .int .i64 (N 8), .int .i64 (N 9), .int .i64 (N 10), .int .i64 (N 11), .int .i64 (N 12), .int .i64 (N 13), .int .i64 (N 14), .int .i64 (N 15), .int .i64 (N 16), .int .i64 (N 17)]] w fun x w' => x = .returned (.tuple #[.agg #[.int .i64 ((pmR M N) 0), .int .i64 ((pmR M N) 1), .int .i64 ((pmR M N) 2), .int .i64 ((pmR M N) 3), .int .i64 ((pmR M N) 4), .int .i64 ((pmR M N) 5), .int .i64 ((pmR M N) 6), .int .i64 ((pmR M N) 7), .int .i64 ((pmR M N) 8), .int .i64 ((pmR M N) 9), .int .i64 ((pmR M N) 10), .int .i64 ((pmR M N) 11), .int .i64 ((pmR M N) 12), .int .i64 ((pmR M N) 13), .int .i64 ((pmR M N) 14), .int .i64 ((pmR M N) 15), .int .i64 ((pmR M N) 16), .int .i64 ((pmR M N) 17)], .int .i64 (pmE M N)]) ∧ Below w.heap.size w w' := by
  have CK := check6 M N hM hN
  by_cases ho : okM M ∧ okM N
  · rw [show pmR M N = prR (pE9 M N) (pL M N) from funext (fun o => if_pos ho), show pmE M N = feI (pE9 M N) 9 from if_pos ho]
    rw [if_pos ho] at CK
    exact vec_prod_ok M N _ _ (dots_pr M N ho.1 ho.2) CK w
  · rw [show pmR M N = fun _ => 0 from funext (fun o => if_neg ho), show pmE M N = 8 from if_neg ho]
    rw [if_neg ho] at CK
    exact vec_prod_bad M N CK w
end Go.Proofs.Ytdolfdmgdknboaa
namespace Go.Proofs.Ytdolfdmgdknboaa
open Go.RowKit
set_option linter.unusedVariables false
set_option linter.unusedSimpArgs false

set_option maxRecDepth 100000 in
set_option maxHeartbeats 6400000 in
theorem vec_circle (n d q1 q2 l1 l2 h1 h2 c1 c2 t1 t2 s1 s2 e1 e2 e3 e4 e5 e6 : Int)
    (W1 : ∀ w : World, Calls Try.prog 67 #[.int .i64 1] w fun x w' => x = .returned (.agg #[.int .i64 1, .int .i64 1]) ∧ Below w.heap.size w w')
    (C1 : ∀ (w : World) (ge : Nat), ge < w.heap.size → w.cell? ⟨ge, 0, none⟩ = some (.int .i64 0) → w.frozen? ⟨ge, 0, none⟩ = false → Calls Try.prog 103 #[.func (.func 104) #[] #[], .agg #[.int .i64 n, .int .i64 d], .agg #[.int .i64 n, .int .i64 d], .pointer (some ⟨ge, 0, none⟩)] w fun r w' => r = .returned (.agg #[.int .i64 q1, .int .i64 q2]) ∧ w'.cell? ⟨ge, 0, none⟩ = some (.int .i64 e1) ∧ w'.frozen? ⟨ge, 0, none⟩ = false ∧ But ge w w')
    (C2 : ∀ (w : World) (ge : Nat), ge < w.heap.size → w.cell? ⟨ge, 0, none⟩ = some (.int .i64 e1) → w.frozen? ⟨ge, 0, none⟩ = false → Calls Try.prog 103 #[.func (.func 105) #[] #[], .agg #[.int .i64 1, .int .i64 1], .agg #[.int .i64 q1, .int .i64 q2], .pointer (some ⟨ge, 0, none⟩)] w fun r w' => r = .returned (.agg #[.int .i64 l1, .int .i64 l2]) ∧ w'.cell? ⟨ge, 0, none⟩ = some (.int .i64 e2) ∧ w'.frozen? ⟨ge, 0, none⟩ = false ∧ But ge w w')
    (C3 : ∀ (w : World) (ge : Nat), ge < w.heap.size → w.cell? ⟨ge, 0, none⟩ = some (.int .i64 e2) → w.frozen? ⟨ge, 0, none⟩ = false → Calls Try.prog 103 #[.func (.func 106) #[] #[], .agg #[.int .i64 1, .int .i64 1], .agg #[.int .i64 q1, .int .i64 q2], .pointer (some ⟨ge, 0, none⟩)] w fun r w' => r = .returned (.agg #[.int .i64 h1, .int .i64 h2]) ∧ w'.cell? ⟨ge, 0, none⟩ = some (.int .i64 e3) ∧ w'.frozen? ⟨ge, 0, none⟩ = false ∧ But ge w w')
    (C4 : ∀ (w : World) (ge : Nat), ge < w.heap.size → w.cell? ⟨ge, 0, none⟩ = some (.int .i64 e3) → w.frozen? ⟨ge, 0, none⟩ = false → Calls Try.prog 103 #[.func (.func 107) #[] #[], .agg #[.int .i64 l1, .int .i64 l2], .agg #[.int .i64 h1, .int .i64 h2], .pointer (some ⟨ge, 0, none⟩)] w fun r w' => r = .returned (.agg #[.int .i64 c1, .int .i64 c2]) ∧ w'.cell? ⟨ge, 0, none⟩ = some (.int .i64 e4) ∧ w'.frozen? ⟨ge, 0, none⟩ = false ∧ But ge w w')
    (C5 : ∀ (w : World) (ge : Nat), ge < w.heap.size → w.cell? ⟨ge, 0, none⟩ = some (.int .i64 e4) → w.frozen? ⟨ge, 0, none⟩ = false → Calls Try.prog 103 #[.func (.func 106) #[] #[], .agg #[.int .i64 n, .int .i64 d], .agg #[.int .i64 n, .int .i64 d], .pointer (some ⟨ge, 0, none⟩)] w fun r w' => r = .returned (.agg #[.int .i64 t1, .int .i64 t2]) ∧ w'.cell? ⟨ge, 0, none⟩ = some (.int .i64 e5) ∧ w'.frozen? ⟨ge, 0, none⟩ = false ∧ But ge w w')
    (C6 : ∀ (w : World) (ge : Nat), ge < w.heap.size → w.cell? ⟨ge, 0, none⟩ = some (.int .i64 e5) → w.frozen? ⟨ge, 0, none⟩ = false → Calls Try.prog 103 #[.func (.func 107) #[] #[], .agg #[.int .i64 t1, .int .i64 t2], .agg #[.int .i64 h1, .int .i64 h2], .pointer (some ⟨ge, 0, none⟩)] w fun r w' => r = .returned (.agg #[.int .i64 s1, .int .i64 s2]) ∧ w'.cell? ⟨ge, 0, none⟩ = some (.int .i64 e6) ∧ w'.frozen? ⟨ge, 0, none⟩ = false ∧ But ge w w')
    (w : World) :
    Calls Try.prog 59 #[.agg #[.int .i64 n, .int .i64 d]] w fun x w' => x = .returned (.tuple #[.agg #[.int .i64 c1, .int .i64 c2], .agg #[.int .i64 s1, .int .i64 s2], .int .i64 e6]) ∧ Below w.heap.size w w' := by
  have xR := xRul
  have dz1 := dzA
  have dz2 := dzB
  have drh : ∀ W : World, W.drew.heap = W.heap := fun _ => rfl
  go_enter Try.func59, Try.ntmps59
  go_upto_region 1 with fail
  refine opq (fun wx => wx.cell? ⟨w.heap.size, 0, none⟩ = some (.int .i64 n) ∧ wx.cell? ⟨w.heap.size, 1, none⟩ = some (.int .i64 d) ∧ wx.cell? ⟨w.heap.size + 1, 0, none⟩ = some (.int .i64 0) ∧ wx.cell? ⟨w.heap.size + 1, 1, none⟩ = some (.int .i64 0) ∧ wx.cell? ⟨w.heap.size + 1 + 1, 0, none⟩ = some (.int .i64 0) ∧ wx.cell? ⟨w.heap.size + 1 + 1, 1, none⟩ = some (.int .i64 0) ∧ wx.frozen? ⟨w.heap.size + 1, 0, none⟩ = false ∧ wx.frozen? ⟨w.heap.size + 1, 1, none⟩ = false ∧ wx.frozen? ⟨w.heap.size + 1 + 1, 0, none⟩ = false ∧ wx.frozen? ⟨w.heap.size + 1 + 1, 1, none⟩ = false ∧ wx.cell? ⟨w.heap.size + 1 + 1 + 1, 0, none⟩ = some (.int .i64 0) ∧ wx.frozen? ⟨w.heap.size + 1 + 1 + 1, 0, none⟩ = false ∧ w.heap.size + 1 + 1 + 1 < wx.heap.size ∧ Below w.heap.size w wx) ?_ ?_
  · exact ⟨kk, kk, kk, kk, kk, kk, kk, kk, kk, kk, kk, kk, by simp, kb⟩
  generalize hge : w.heap.size + 1 + 1 + 1 = ge
  have zg0 : w.heap.size + 1 + 1 < ge := by omega
  clear hge
  have n0 : (ge = w.heap.size) = False := eq_false (by omega)
  have n1 : (ge = w.heap.size + 1) = False := eq_false (by omega)
  have n2 : (ge = w.heap.size + 1 + 1) = False := eq_false (by omega)
  have n3 : (w.heap.size = ge) = False := eq_false (by omega)
  have n4 : (w.heap.size + 1 = ge) = False := eq_false (by omega)
  have n5 : (w.heap.size + 1 + 1 = ge) = False := eq_false (by omega)
  rintro wa ⟨k0, k1, k2, k3, k4, k5, k6, k7, k8, k9, ke, fe, zg, HB⟩
  have zh0 : w.heap.size < wa.heap.size := by omega
  have zh1 : w.heap.size + 1 < wa.heap.size := by omega
  have zh2 : w.heap.size + 1 + 1 < wa.heap.size := by omega
  have zge : ge < wa.heap.size := by omega
  have zge1 : (ge = wa.heap.size) = False := eq_false (by omega)
  have zge2 : (wa.heap.size = ge) = False := eq_false (by omega)
  go_wp2_with fail
  with_reducible refine (C1 _ _ (by first | omega | simp) ke fe).mono ?_
  rintro e w1 ⟨rfl, ke1, fe1, hb⟩
  replace ke := ke1
  replace fe := fe1
  clear ke1 fe1
  replace k0 : w1.cell? ⟨w.heap.size, 0, none⟩ = some (.int .i64 n) := (hb.cell _ _ (by omega) (by omega)).trans k0
  replace k1 : w1.cell? ⟨w.heap.size, 1, none⟩ = some (.int .i64 d) := (hb.cell _ _ (by omega) (by omega)).trans k1
  replace k2 : w1.cell? ⟨w.heap.size + 1, 0, none⟩ = some (.int .i64 0) := (hb.cell _ _ (by omega) (by omega)).trans k2
  replace k3 : w1.cell? ⟨w.heap.size + 1, 1, none⟩ = some (.int .i64 0) := (hb.cell _ _ (by omega) (by omega)).trans k3
  replace k4 : w1.cell? ⟨w.heap.size + 1 + 1, 0, none⟩ = some (.int .i64 0) := (hb.cell _ _ (by omega) (by omega)).trans k4
  replace k5 : w1.cell? ⟨w.heap.size + 1 + 1, 1, none⟩ = some (.int .i64 0) := (hb.cell _ _ (by omega) (by omega)).trans k5
  replace k6 : w1.frozen? ⟨w.heap.size + 1, 0, none⟩ = false := (hb.frozen _ _ (by omega) (by omega)).trans k6
  replace k7 : w1.frozen? ⟨w.heap.size + 1, 1, none⟩ = false := (hb.frozen _ _ (by omega) (by omega)).trans k7
  replace k8 : w1.frozen? ⟨w.heap.size + 1 + 1, 0, none⟩ = false := (hb.frozen _ _ (by omega) (by omega)).trans k8
  replace k9 : w1.frozen? ⟨w.heap.size + 1 + 1, 1, none⟩ = false := (hb.frozen _ _ (by omega) (by omega)).trans k9
  replace HB : Below w.heap.size w w1 := HB.trans (hb.below.mono (by omega))
  replace zg := Nat.lt_of_lt_of_le zg hb.size
  clear hb C1 zh0 zh1 zh2
  go_upto_region 3 with fail
  refine opq (fun wx => wx.cell? ⟨w.heap.size, 0, none⟩ = some (.int .i64 n) ∧ wx.cell? ⟨w.heap.size, 1, none⟩ = some (.int .i64 d) ∧ wx.cell? ⟨w.heap.size + 1, 0, none⟩ = some (.int .i64 0) ∧ wx.cell? ⟨w.heap.size + 1, 1, none⟩ = some (.int .i64 0) ∧ wx.cell? ⟨w.heap.size + 1 + 1, 0, none⟩ = some (.int .i64 0) ∧ wx.cell? ⟨w.heap.size + 1 + 1, 1, none⟩ = some (.int .i64 0) ∧ wx.frozen? ⟨w.heap.size + 1, 0, none⟩ = false ∧ wx.frozen? ⟨w.heap.size + 1, 1, none⟩ = false ∧ wx.frozen? ⟨w.heap.size + 1 + 1, 0, none⟩ = false ∧ wx.frozen? ⟨w.heap.size + 1 + 1, 1, none⟩ = false ∧ wx.cell? ⟨w1.heap.size, 0, none⟩ = some (.int .i64 q1) ∧ wx.cell? ⟨w1.heap.size, 1, none⟩ = some (.int .i64 q2) ∧ wx.cell? ⟨ge, 0, none⟩ = some (.int .i64 e1) ∧ wx.frozen? ⟨ge, 0, none⟩ = false ∧ w1.heap.size < wx.heap.size ∧ Below w.heap.size w wx) ?_ ?_
  · have y0 : w.heap.size < w1.heap.size := by omega
    have y1 : w.heap.size + 1 < w1.heap.size := by omega
    have y2 : w.heap.size + 1 + 1 < w1.heap.size := by omega
    have y3 : (ge = w1.heap.size) = False := eq_false (by omega)
    have y4 : (w1.heap.size = ge) = False := eq_false (by omega)
    exact ⟨kk, kk, kk, kk, kk, kk, kk, kk, kk, kk, kk, kk, kk, kk, by simp [World.setCell], kg⟩
  clear k0 k1 k2 k3 k4 k5 k6 k7 k8 k9 ke fe HB
  generalize w1.heap.size = q at *
  rintro wb ⟨k0, k1, k2, k3, k4, k5, k6, k7, k8, k9, k10, k11, ke, fe, zq, HB⟩
  have zh0 : w.heap.size < wb.heap.size := by omega
  have zh1 : w.heap.size + 1 < wb.heap.size := by omega
  have zh2 : w.heap.size + 1 + 1 < wb.heap.size := by omega
  have zge : ge < wb.heap.size := by omega
  have zge1 : (ge = wb.heap.size) = False := eq_false (by omega)
  have zge2 : (wb.heap.size = ge) = False := eq_false (by omega)
  have zbq : q < wb.heap.size := by omega
  have mq_1 : (ge = q) = False := eq_false (by omega)
  have mq_2 : (q = ge) = False := eq_false (by omega)
  go_wp2_with fail
  go_cut [7] (fun s7 wx => ∃ ql : Nat, s7 = .pointer (some ⟨ql, 0, none⟩) ∧ ge < ql ∧ ql < wx.heap.size ∧ wx.cell? ⟨w.heap.size, 0, none⟩ = some (.int .i64 n) ∧ wx.cell? ⟨w.heap.size, 1, none⟩ = some (.int .i64 d) ∧ wx.cell? ⟨w.heap.size + 1, 0, none⟩ = some (.int .i64 0) ∧ wx.cell? ⟨w.heap.size + 1, 1, none⟩ = some (.int .i64 0) ∧ wx.cell? ⟨w.heap.size + 1 + 1, 0, none⟩ = some (.int .i64 0) ∧ wx.cell? ⟨w.heap.size + 1 + 1, 1, none⟩ = some (.int .i64 0) ∧ wx.frozen? ⟨w.heap.size + 1, 0, none⟩ = false ∧ wx.frozen? ⟨w.heap.size + 1, 1, none⟩ = false ∧ wx.frozen? ⟨w.heap.size + 1 + 1, 0, none⟩ = false ∧ wx.frozen? ⟨w.heap.size + 1 + 1, 1, none⟩ = false ∧ wx.cell? ⟨q, 0, none⟩ = some (.int .i64 q1) ∧ wx.cell? ⟨q, 1, none⟩ = some (.int .i64 q2) ∧ wx.cell? ⟨ql, 0, none⟩ = some (.int .i64 l1) ∧ wx.cell? ⟨ql, 1, none⟩ = some (.int .i64 l2) ∧ wx.cell? ⟨ge, 0, none⟩ = some (.int .i64 e2) ∧ wx.frozen? ⟨ge, 0, none⟩ = false ∧ wb.heap.size ≤ wx.heap.size ∧ Below w.heap.size w wx)
  case first =>
    go_region_held3 (fun w' => w'.cell? ⟨w.heap.size, 0, none⟩ = some (.int .i64 n) ∧ w'.cell? ⟨w.heap.size, 1, none⟩ = some (.int .i64 d) ∧ w'.cell? ⟨w.heap.size + 1, 0, none⟩ = some (.int .i64 0) ∧ w'.cell? ⟨w.heap.size + 1, 1, none⟩ = some (.int .i64 0) ∧ w'.cell? ⟨w.heap.size + 1 + 1, 0, none⟩ = some (.int .i64 0) ∧ w'.cell? ⟨w.heap.size + 1 + 1, 1, none⟩ = some (.int .i64 0) ∧ w'.frozen? ⟨w.heap.size + 1, 0, none⟩ = false ∧ w'.frozen? ⟨w.heap.size + 1, 1, none⟩ = false ∧ w'.frozen? ⟨w.heap.size + 1 + 1, 0, none⟩ = false ∧ w'.frozen? ⟨w.heap.size + 1 + 1, 1, none⟩ = false ∧ w'.cell? ⟨q, 0, none⟩ = some (.int .i64 q1) ∧ w'.cell? ⟨q, 1, none⟩ = some (.int .i64 q2)) (simp (maxDischargeDepth := 8) [go_sem, kp, *])
      ((first
        | (go_at_call 67; with_reducible refine (W1 _).mono ?_; rintro e w' ⟨rfl, hb⟩; obtain ⟨l9, d9, rfl⟩ := toExt hb; clear hb)
        | (go_at_call 103; with_reducible refine Calls.mono (C2 _ ge ?_ ?_ ?_) ?_; (first | omega | (simp [ext_size] <;> omega)); (simp (maxDischargeDepth := 8) [go_sem, kp, *]); (simp (maxDischargeDepth := 8) [go_sem, kp, *]); rintro e w9 ⟨rfl, hke, hfe, hbut⟩; have hc := hbut.cell; have hf := hbut.frozen; have hbs := hbut.size; (try simp [ext_size] at hbs); have HB9 : Below w.heap.size w w9 := Below.trans (kg) (hbut.below.mono (by omega)); have hz9 : wb.heap.size ≤ w9.heap.size := (by have hq := hbut.size; (try simp [ext_size] at hq); omega); have nz1 : (ge = w9.heap.size) = False := eq_false (by omega); have nz2 : (w9.heap.size = ge) = False := eq_false (by omega); have nz3 : ge < w9.heap.size := (by omega); have nz4 : w.heap.size < w9.heap.size := (by omega); have nz5 : w.heap.size + 1 < w9.heap.size := (by omega); have nz6 : w.heap.size + 1 + 1 < w9.heap.size := (by omega); have nvq : q < w9.heap.size := (by omega))))
    all_goals (try go_wp2_with fail)
    all_goals go_meet
    all_goals exact ⟨_, rfl, by first | omega | (simp [ext_size, World.setCell] <;> omega), by first | omega | (simp [ext_size, World.setCell] <;> omega), kk, kk, kk, kk, kk, kk, kk, kk, kk, kk, kk, kk, kk, kk, kk, kk, by first | omega | (simp [ext_size, World.setCell] <;> omega), kg⟩
  case rest =>
  obtain ⟨ql, rfl, znql, zqql, j0, j1, j2, j3, j4, j5, j6, j7, j8, j9, j10, j11, j12, j13, ke1, fe1, zpv, HB1⟩ := hcut
  clear k0 k1 k2 k3 k4 k5 k6 k7 k8 k9 k10 k11 ke fe HB C2 zh0 zh1 zh2 zge zge1 zge2 zbq mq_1 mq_2
  have ke := ke1
  have fe := fe1
  have HB := HB1
  clear ke1 fe1 HB1
  have k0 := j0
  have k1 := j1
  have k2 := j2
  have k3 := j3
  have k4 := j4
  have k5 := j5
  have k6 := j6
  have k7 := j7
  have k8 := j8
  have k9 := j9
  have k10 := j10
  have k11 := j11
  have k12 := j12
  have k13 := j13
  clear j0 j1 j2 j3 j4 j5 j6 j7 j8 j9 j10 j11 j12 j13
  have zh0 : w.heap.size < wc.heap.size := by omega
  have zh1 : w.heap.size + 1 < wc.heap.size := by omega
  have zh2 : w.heap.size + 1 + 1 < wc.heap.size := by omega
  have zge : ge < wc.heap.size := by omega
  have zge1 : (ge = wc.heap.size) = False := eq_false (by omega)
  have zge2 : (wc.heap.size = ge) = False := eq_false (by omega)
  have zbq : q < wc.heap.size := by omega
  have zbql : ql < wc.heap.size := by omega
  have mq_1 : (ge = q) = False := eq_false (by omega)
  have mq_2 : (q = ge) = False := eq_false (by omega)
  have mql_1 : (ge = ql) = False := eq_false (by omega)
  have mql_2 : (ql = ge) = False := eq_false (by omega)
  go_wp2_with fail
  go_cut [8] (fun s8 wx => ∃ qh : Nat, s8 = .pointer (some ⟨qh, 0, none⟩) ∧ ge < qh ∧ qh < wx.heap.size ∧ wx.cell? ⟨w.heap.size, 0, none⟩ = some (.int .i64 n) ∧ wx.cell? ⟨w.heap.size, 1, none⟩ = some (.int .i64 d) ∧ wx.cell? ⟨w.heap.size + 1, 0, none⟩ = some (.int .i64 0) ∧ wx.cell? ⟨w.heap.size + 1, 1, none⟩ = some (.int .i64 0) ∧ wx.cell? ⟨w.heap.size + 1 + 1, 0, none⟩ = some (.int .i64 0) ∧ wx.cell? ⟨w.heap.size + 1 + 1, 1, none⟩ = some (.int .i64 0) ∧ wx.frozen? ⟨w.heap.size + 1, 0, none⟩ = false ∧ wx.frozen? ⟨w.heap.size + 1, 1, none⟩ = false ∧ wx.frozen? ⟨w.heap.size + 1 + 1, 0, none⟩ = false ∧ wx.frozen? ⟨w.heap.size + 1 + 1, 1, none⟩ = false ∧ wx.cell? ⟨q, 0, none⟩ = some (.int .i64 q1) ∧ wx.cell? ⟨q, 1, none⟩ = some (.int .i64 q2) ∧ wx.cell? ⟨ql, 0, none⟩ = some (.int .i64 l1) ∧ wx.cell? ⟨ql, 1, none⟩ = some (.int .i64 l2) ∧ wx.cell? ⟨qh, 0, none⟩ = some (.int .i64 h1) ∧ wx.cell? ⟨qh, 1, none⟩ = some (.int .i64 h2) ∧ wx.cell? ⟨ge, 0, none⟩ = some (.int .i64 e3) ∧ wx.frozen? ⟨ge, 0, none⟩ = false ∧ wc.heap.size ≤ wx.heap.size ∧ Below w.heap.size w wx)
  case first =>
    go_region_held3 (fun w' => w'.cell? ⟨w.heap.size, 0, none⟩ = some (.int .i64 n) ∧ w'.cell? ⟨w.heap.size, 1, none⟩ = some (.int .i64 d) ∧ w'.cell? ⟨w.heap.size + 1, 0, none⟩ = some (.int .i64 0) ∧ w'.cell? ⟨w.heap.size + 1, 1, none⟩ = some (.int .i64 0) ∧ w'.cell? ⟨w.heap.size + 1 + 1, 0, none⟩ = some (.int .i64 0) ∧ w'.cell? ⟨w.heap.size + 1 + 1, 1, none⟩ = some (.int .i64 0) ∧ w'.frozen? ⟨w.heap.size + 1, 0, none⟩ = false ∧ w'.frozen? ⟨w.heap.size + 1, 1, none⟩ = false ∧ w'.frozen? ⟨w.heap.size + 1 + 1, 0, none⟩ = false ∧ w'.frozen? ⟨w.heap.size + 1 + 1, 1, none⟩ = false ∧ w'.cell? ⟨q, 0, none⟩ = some (.int .i64 q1) ∧ w'.cell? ⟨q, 1, none⟩ = some (.int .i64 q2) ∧ w'.cell? ⟨ql, 0, none⟩ = some (.int .i64 l1) ∧ w'.cell? ⟨ql, 1, none⟩ = some (.int .i64 l2)) (simp (maxDischargeDepth := 8) [go_sem, kp, *])
      ((first
        | (go_at_call 67; with_reducible refine (W1 _).mono ?_; rintro e w' ⟨rfl, hb⟩; obtain ⟨l9, d9, rfl⟩ := toExt hb; clear hb)
        | (go_at_call 103; with_reducible refine Calls.mono (C3 _ ge ?_ ?_ ?_) ?_; (first | omega | (simp [ext_size] <;> omega)); (simp (maxDischargeDepth := 8) [go_sem, kp, *]); (simp (maxDischargeDepth := 8) [go_sem, kp, *]); rintro e w9 ⟨rfl, hke, hfe, hbut⟩; have hc := hbut.cell; have hf := hbut.frozen; have hbs := hbut.size; (try simp [ext_size] at hbs); have HB9 : Below w.heap.size w w9 := Below.trans (kg) (hbut.below.mono (by omega)); have hz9 : wc.heap.size ≤ w9.heap.size := (by have hq := hbut.size; (try simp [ext_size] at hq); omega); have nz1 : (ge = w9.heap.size) = False := eq_false (by omega); have nz2 : (w9.heap.size = ge) = False := eq_false (by omega); have nz3 : ge < w9.heap.size := (by omega); have nz4 : w.heap.size < w9.heap.size := (by omega); have nz5 : w.heap.size + 1 < w9.heap.size := (by omega); have nz6 : w.heap.size + 1 + 1 < w9.heap.size := (by omega); have nvq : q < w9.heap.size := (by omega); have nvql : ql < w9.heap.size := (by omega))))
    all_goals (try go_wp2_with fail)
    all_goals go_meet
    all_goals exact ⟨_, rfl, by first | omega | (simp [ext_size, World.setCell] <;> omega), by first | omega | (simp [ext_size, World.setCell] <;> omega), kk, kk, kk, kk, kk, kk, kk, kk, kk, kk, kk, kk, kk, kk, kk, kk, kk, kk, by first | omega | (simp [ext_size, World.setCell] <;> omega), kg⟩
  case rest =>
  obtain ⟨qh, rfl, znqh, zqqh, j0, j1, j2, j3, j4, j5, j6, j7, j8, j9, j10, j11, j12, j13, j14, j15, ke1, fe1, zpv, HB1⟩ := hcut
  clear k0 k1 k2 k3 k4 k5 k6 k7 k8 k9 k10 k11 k12 k13 ke fe HB C3 zh0 zh1 zh2 zge zge1 zge2 zbq mq_1 mq_2 zbql mql_1 mql_2
  have ke := ke1
  have fe := fe1
  have HB := HB1
  clear ke1 fe1 HB1
  have k0 := j0
  have k1 := j1
  have k2 := j2
  have k3 := j3
  have k4 := j4
  have k5 := j5
  have k6 := j6
  have k7 := j7
  have k8 := j8
  have k9 := j9
  have k10 := j10
  have k11 := j11
  have k12 := j12
  have k13 := j13
  have k14 := j14
  have k15 := j15
  clear j0 j1 j2 j3 j4 j5 j6 j7 j8 j9 j10 j11 j12 j13 j14 j15
  have zh0 : w.heap.size < wc.heap.size := by omega
  have zh1 : w.heap.size + 1 < wc.heap.size := by omega
  have zh2 : w.heap.size + 1 + 1 < wc.heap.size := by omega
  have zge : ge < wc.heap.size := by omega
  have zge1 : (ge = wc.heap.size) = False := eq_false (by omega)
  have zge2 : (wc.heap.size = ge) = False := eq_false (by omega)
  have zbql : ql < wc.heap.size := by omega
  have zbqh : qh < wc.heap.size := by omega
  have mql_1 : (ge = ql) = False := eq_false (by omega)
  have mql_2 : (ql = ge) = False := eq_false (by omega)
  have mqh_1 : (ge = qh) = False := eq_false (by omega)
  have mqh_2 : (qh = ge) = False := eq_false (by omega)
  have dql_0 : (ql = w.heap.size) = False := eq_false (by omega)
  have dql_0_ : (w.heap.size = ql) = False := eq_false (by omega)
  have dql_1 : (ql = w.heap.size + 1) = False := eq_false (by omega)
  have dql_1_ : (w.heap.size + 1 = ql) = False := eq_false (by omega)
  have dql_2 : (ql = w.heap.size + 1 + 1) = False := eq_false (by omega)
  have dql_2_ : (w.heap.size + 1 + 1 = ql) = False := eq_false (by omega)
  have dqh_0 : (qh = w.heap.size) = False := eq_false (by omega)
  have dqh_0_ : (w.heap.size = qh) = False := eq_false (by omega)
  have dqh_1 : (qh = w.heap.size + 1) = False := eq_false (by omega)
  have dqh_1_ : (w.heap.size + 1 = qh) = False := eq_false (by omega)
  have dqh_2 : (qh = w.heap.size + 1 + 1) = False := eq_false (by omega)
  have dqh_2_ : (w.heap.size + 1 + 1 = qh) = False := eq_false (by omega)
  go_wp2_with fail
  go_region_held3 (fun w' => w'.cell? ⟨ql, 0, none⟩ = some (.int .i64 l1) ∧ w'.cell? ⟨ql, 1, none⟩ = some (.int .i64 l2) ∧ w'.cell? ⟨qh, 0, none⟩ = some (.int .i64 h1) ∧ w'.cell? ⟨qh, 1, none⟩ = some (.int .i64 h2) ∧ w'.cell? ⟨w.heap.size, 0, none⟩ = some (.int .i64 n) ∧ w'.cell? ⟨w.heap.size, 1, none⟩ = some (.int .i64 d)) (simp (maxDischargeDepth := 8) [go_sem, kp, *])
    ((first
      | (go_at_call 103; with_reducible refine Calls.mono (C4 _ ge ?_ ?_ ?_) ?_; (first | omega | (simp [ext_size] <;> omega)); (simp (maxDischargeDepth := 8) [go_sem, kp, *]); (simp (maxDischargeDepth := 8) [go_sem, kp, *]); rintro e w9 ⟨rfl, hke, hfe, hbut⟩; have hc := hbut.cell; have hf := hbut.frozen; have HB9 : Below w.heap.size w w9 := Below.trans (by first | ((with_reducible repeat (first | exact HB9 | refine bex ?_ _ _ | refine bdn ?_ _ | refine bdr ?_ | refine bala ?_ _ | refine bsea ?_ _)); done) | (with_reducible repeat (first | exact HB | refine bex ?_ _ _ | refine bdn ?_ _ | refine bdr ?_ | refine bala ?_ _ | refine bsea ?_ _))) (hbut.below.mono (by omega)); have hz9 : wc.heap.size ≤ w9.heap.size := (by have hq := hbut.size; (try simp [ext_size] at hq); omega); have nz3 : ge < w9.heap.size := (by omega); have nz4 : w.heap.size < w9.heap.size := (by omega); have nz5 : w.heap.size + 1 < w9.heap.size := (by omega); have nz6 : w.heap.size + 1 + 1 < w9.heap.size := (by omega); have nv1 : ql < w9.heap.size := (by omega); have nv2 : qh < w9.heap.size := (by omega))
      | (go_at_call 103; with_reducible refine Calls.mono (C5 _ ge ?_ ?_ ?_) ?_; (first | omega | (simp [ext_size] <;> omega)); (simp (maxDischargeDepth := 8) [go_sem, kp, *]); (simp (maxDischargeDepth := 8) [go_sem, kp, *]); rintro e w9 ⟨rfl, hke, hfe, hbut⟩; have hc := hbut.cell; have hf := hbut.frozen; have HB9 : Below w.heap.size w w9 := Below.trans (by first | ((with_reducible repeat (first | exact HB9 | refine bex ?_ _ _ | refine bdn ?_ _ | refine bdr ?_ | refine bala ?_ _ | refine bsea ?_ _)); done) | (with_reducible repeat (first | exact HB | refine bex ?_ _ _ | refine bdn ?_ _ | refine bdr ?_ | refine bala ?_ _ | refine bsea ?_ _))) (hbut.below.mono (by omega)); have hz9 : wc.heap.size ≤ w9.heap.size := (by have hq := hbut.size; (try simp [ext_size] at hq); omega); have nz3 : ge < w9.heap.size := (by omega); have nz4 : w.heap.size < w9.heap.size := (by omega); have nz5 : w.heap.size + 1 < w9.heap.size := (by omega); have nz6 : w.heap.size + 1 + 1 < w9.heap.size := (by omega); have nv1 : ql < w9.heap.size := (by omega); have nv2 : qh < w9.heap.size := (by omega))
      | (go_at_call 103; with_reducible refine Calls.mono (C6 _ ge ?_ ?_ ?_) ?_; (first | omega | (simp [ext_size] <;> omega)); (simp (maxDischargeDepth := 8) [go_sem, kp, *]); (simp (maxDischargeDepth := 8) [go_sem, kp, *]); rintro e w9 ⟨rfl, hke, hfe, hbut⟩; have hc := hbut.cell; have hf := hbut.frozen; have HB9 : Below w.heap.size w w9 := Below.trans (by first | ((with_reducible repeat (first | exact HB9 | refine bex ?_ _ _ | refine bdn ?_ _ | refine bdr ?_ | refine bala ?_ _ | refine bsea ?_ _)); done) | (with_reducible repeat (first | exact HB | refine bex ?_ _ _ | refine bdn ?_ _ | refine bdr ?_ | refine bala ?_ _ | refine bsea ?_ _))) (hbut.below.mono (by omega)); have hz9 : wc.heap.size ≤ w9.heap.size := (by have hq := hbut.size; (try simp [ext_size] at hq); omega); have nz3 : ge < w9.heap.size := (by omega); have nz4 : w.heap.size < w9.heap.size := (by omega); have nz5 : w.heap.size + 1 < w9.heap.size := (by omega); have nz6 : w.heap.size + 1 + 1 < w9.heap.size := (by omega); have nv1 : ql < w9.heap.size := (by omega); have nv2 : qh < w9.heap.size := (by omega))))
  all_goals (try go_wp2_with fail)
  all_goals go_region_held3 (fun w' => w'.cell? ⟨w.heap.size + 1, 0, none⟩ = some (.int .i64 c1) ∧ w'.cell? ⟨w.heap.size + 1, 1, none⟩ = some (.int .i64 c2) ∧ w'.cell? ⟨w.heap.size + 1 + 1, 0, none⟩ = some (.int .i64 s1) ∧ w'.cell? ⟨w.heap.size + 1 + 1, 1, none⟩ = some (.int .i64 s2) ∧ w'.cell? ⟨ge, 0, none⟩ = some (.int .i64 e6)) (simp (maxDischargeDepth := 8) [go_sem, kp, *]) (fail)
  all_goals (try go_wp2)
  all_goals refine bodyPost_ret (by simp [results, Try.results59, go_sem, ext_cell, kp, *]; try rfl) rfl ?_
  all_goals exact ⟨rfl, kg⟩
end Go.Proofs.Ytdolfdmgdknboaa
namespace Go.Proofs.Ytdolfdmgdknboaa
open Go.RowKit
set_option linter.unusedVariables false
set_option linter.unusedSimpArgs false

set_option maxRecDepth 100000 in
set_option maxHeartbeats 1600000 in
theorem circle_none (fv : Value) (ge : Nat) (a b c d e : Int) (he : (e == 0) = false) (w : World) (hg : ge < w.heap.size)
    (c0 : w.cell? ⟨ge, 0, none⟩ = some (.int .i64 e)) (f0 : w.frozen? ⟨ge, 0, none⟩ = false) :
    Calls Try.prog 103 #[fv, .agg #[.int .i64 a, .int .i64 b], .agg #[.int .i64 c, .int .i64 d], .pointer (some ⟨ge, 0, none⟩)] w fun r w' => r = .returned (.agg #[.int .i64 0, .int .i64 0]) ∧ w'.cell? ⟨ge, 0, none⟩ = some (.int .i64 e) ∧ w'.frozen? ⟨ge, 0, none⟩ = false ∧ But ge w w' := by
  have dAl := dAl; have dSt := dSt
  go_enter Try.func103, Try.ntmps103
  go_upto_region 1 with fail
  refine opq (fun wx => wx.cell? ⟨w.heap.size, 0, none⟩ = some (.int .i64 a) ∧ wx.cell? ⟨w.heap.size, 1, none⟩ = some (.int .i64 b) ∧ wx.cell? ⟨w.heap.size + 1, 0, none⟩ = some (.int .i64 c) ∧ wx.cell? ⟨w.heap.size + 1, 1, none⟩ = some (.int .i64 d) ∧ wx.cell? ⟨w.heap.size + 1 + 1, 0, none⟩ = some (.int .i64 0) ∧ wx.cell? ⟨w.heap.size + 1 + 1, 1, none⟩ = some (.int .i64 0) ∧ wx.frozen? ⟨w.heap.size + 1 + 1, 0, none⟩ = false ∧ wx.frozen? ⟨w.heap.size + 1 + 1, 1, none⟩ = false ∧ wx.cell? ⟨ge, 0, none⟩ = some (.int .i64 e) ∧ wx.frozen? ⟨ge, 0, none⟩ = false ∧ w.heap.size + 1 + 1 < wx.heap.size ∧ But ge w wx) ?_ ?_
  · have z1 : ge < w.heap.size + 1 := by omega
    have z2 : ge < w.heap.size + 1 + 1 := by omega
    exact ⟨kk, kk, kk, kk, kk, kk, kk, kk, kk, kk, by simp, by (with_reducible repeat (first | exact But.refl _ _ | refine But.drewN ?_ | refine But.drew ?_ | refine But.ext ?_ (by first | omega | (simp [ext_size, World.setCell] <;> omega)) _ _ | refine But.alloc ?_ (by first | omega | (simp [ext_size, World.setCell] <;> omega)) _ | refine But.set ?_ _ | refine But.setNew ?_ (by first | omega | (simp [ext_size, World.setCell] <;> omega)) (by first | omega | (simp [ext_size, World.setCell] <;> omega)) _))⟩
  rintro wa ⟨k0, k1, k2, k3, k4, k5, k6, k7, g0, g1, zs, HB⟩
  have zg : ge < wa.heap.size := by omega
  have zh : w.heap.size < wa.heap.size := by omega
  have zi : w.heap.size + 1 < wa.heap.size := by omega
  have q0 : (ge = w.heap.size) = False := eq_false (by omega)
  have q1 : (ge = w.heap.size + 1) = False := eq_false (by omega)
  have q2 : (ge = w.heap.size + 1 + 1) = False := eq_false (by omega)
  have q3 : (w.heap.size = ge) = False := eq_false (by omega)
  have q4 : (w.heap.size + 1 = ge) = False := eq_false (by omega)
  have q5 : (w.heap.size + 1 + 1 = ge) = False := eq_false (by omega)
  go_wp2
  refine bodyPost_ret (by simp [results, Try.results103, go_sem, ext_cell, kp, *]; try rfl) rfl ?_
  exact ⟨rfl, kk, kk, by (with_reducible repeat (first | exact HB | refine But.drewN ?_ | refine But.drew ?_ | refine But.ext ?_ (by first | omega | (simp [ext_size, World.setCell] <;> omega)) _ _ | refine But.alloc ?_ (by first | omega | (simp [ext_size, World.setCell] <;> omega)) _ | refine But.set ?_ _ | refine But.setNew ?_ (by first | omega | (simp [ext_size, World.setCell] <;> omega)) (by first | omega | (simp [ext_size, World.setCell] <;> omega)) _))⟩

set_option maxRecDepth 100000 in
set_option maxHeartbeats 1600000 in
theorem circle_Mul0 (ge : Nat) (a b c d x y e : Int) (A : ∀ w : World, Calls Try.prog 104 #[.agg #[.int .i64 a, .int .i64 b], .agg #[.int .i64 c, .int .i64 d]] w fun r w' => r = .returned (.tuple #[.agg #[.int .i64 x, .int .i64 y], .int .i64 e]) ∧ Below w.heap.size w w') (w : World) (hg : ge < w.heap.size)
    (c0 : w.cell? ⟨ge, 0, none⟩ = some (.int .i64 0)) (f0 : w.frozen? ⟨ge, 0, none⟩ = false) :
    Calls Try.prog 103 #[.func (.func 104) #[] #[], .agg #[.int .i64 a, .int .i64 b], .agg #[.int .i64 c, .int .i64 d], .pointer (some ⟨ge, 0, none⟩)] w fun r w' => r = .returned (.agg #[.int .i64 x, .int .i64 y]) ∧ w'.cell? ⟨ge, 0, none⟩ = some (.int .i64 e) ∧ w'.frozen? ⟨ge, 0, none⟩ = false ∧ But ge w w' := by
  have dAl := dAl; have dSt := dSt
  go_enter Try.func103, Try.ntmps103
  go_upto_region 1 with fail
  refine opq (fun wx => wx.cell? ⟨w.heap.size, 0, none⟩ = some (.int .i64 a) ∧ wx.cell? ⟨w.heap.size, 1, none⟩ = some (.int .i64 b) ∧ wx.cell? ⟨w.heap.size + 1, 0, none⟩ = some (.int .i64 c) ∧ wx.cell? ⟨w.heap.size + 1, 1, none⟩ = some (.int .i64 d) ∧ wx.cell? ⟨w.heap.size + 1 + 1, 0, none⟩ = some (.int .i64 0) ∧ wx.cell? ⟨w.heap.size + 1 + 1, 1, none⟩ = some (.int .i64 0) ∧ wx.frozen? ⟨w.heap.size + 1 + 1, 0, none⟩ = false ∧ wx.frozen? ⟨w.heap.size + 1 + 1, 1, none⟩ = false ∧ wx.cell? ⟨ge, 0, none⟩ = some (.int .i64 0) ∧ wx.frozen? ⟨ge, 0, none⟩ = false ∧ w.heap.size + 1 + 1 < wx.heap.size ∧ But ge w wx) ?_ ?_
  · have z1 : ge < w.heap.size + 1 := by omega
    have z2 : ge < w.heap.size + 1 + 1 := by omega
    exact ⟨kk, kk, kk, kk, kk, kk, kk, kk, kk, kk, by simp, by (with_reducible repeat (first | exact But.refl _ _ | refine But.drewN ?_ | refine But.drew ?_ | refine But.ext ?_ (by first | omega | (simp [ext_size, World.setCell] <;> omega)) _ _ | refine But.alloc ?_ (by first | omega | (simp [ext_size, World.setCell] <;> omega)) _ | refine But.set ?_ _ | refine But.setNew ?_ (by first | omega | (simp [ext_size, World.setCell] <;> omega)) (by first | omega | (simp [ext_size, World.setCell] <;> omega)) _))⟩
  rintro wa ⟨k0, k1, k2, k3, k4, k5, k6, k7, g0, g1, zs, HB⟩
  have zg : ge < wa.heap.size := by omega
  have zh : w.heap.size < wa.heap.size := by omega
  have zi : w.heap.size + 1 < wa.heap.size := by omega
  have q0 : (ge = w.heap.size) = False := eq_false (by omega)
  have q1 : (ge = w.heap.size + 1) = False := eq_false (by omega)
  have q2 : (ge = w.heap.size + 1 + 1) = False := eq_false (by omega)
  have q3 : (w.heap.size = ge) = False := eq_false (by omega)
  have q4 : (w.heap.size + 1 = ge) = False := eq_false (by omega)
  have q5 : (w.heap.size + 1 + 1 = ge) = False := eq_false (by omega)
  go_wp2_with fail
  with_reducible refine (A _).mono ?_
  rintro r w1 ⟨rfl, hb⟩
  have hs : wa.heap.size < w1.heap.size := by have := hb.size; simp at this; omega
  have t0 : w1.cell? ⟨wa.heap.size, 0, none⟩ = some (.int .i64 0) := (hb.cell (show wa.heap.size < _ by simp)).trans kk
  have t1 : w1.cell? ⟨wa.heap.size, 1, none⟩ = some (.int .i64 0) := (hb.cell (show wa.heap.size < _ by simp)).trans kk
  have t2 : w1.frozen? ⟨wa.heap.size, 0, none⟩ = false := (hb.frozen (show wa.heap.size < _ by simp)).trans kk
  have t3 : w1.frozen? ⟨wa.heap.size, 1, none⟩ = false := (hb.frozen (show wa.heap.size < _ by simp)).trans kk
  replace k4 : w1.cell? ⟨w.heap.size + 1 + 1, 0, none⟩ = some (.int .i64 0) := (hb.cell (show w.heap.size + 1 + 1 < _ by simp <;> omega)).trans kk
  replace k5 : w1.cell? ⟨w.heap.size + 1 + 1, 1, none⟩ = some (.int .i64 0) := (hb.cell (show w.heap.size + 1 + 1 < _ by simp <;> omega)).trans kk
  replace k6 : w1.frozen? ⟨w.heap.size + 1 + 1, 0, none⟩ = false := (hb.frozen (show w.heap.size + 1 + 1 < _ by simp <;> omega)).trans kk
  replace k7 : w1.frozen? ⟨w.heap.size + 1 + 1, 1, none⟩ = false := (hb.frozen (show w.heap.size + 1 + 1 < _ by simp <;> omega)).trans kk
  replace g0 : w1.cell? ⟨ge, 0, none⟩ = some (.int .i64 0) := (hb.cell (show ge < _ by simp <;> omega)).trans kk
  replace g1 : w1.frozen? ⟨ge, 0, none⟩ = false := (hb.frozen (show ge < _ by simp <;> omega)).trans kk
  have HB1 : But ge w w1 := HB.trans ((But.alloc (But.refl ge wa) (by omega) _).trans (But.of_below hb (by simp) (by simp <;> omega)))
  clear hb A k0 k1 k2 k3 HB
  have p0 : (ge = wa.heap.size) = False := eq_false (by omega)
  have p1 : (wa.heap.size = ge) = False := eq_false (by omega)
  have p2 : (w.heap.size + 1 + 1 = wa.heap.size) = False := eq_false (by omega)
  have p3 : (wa.heap.size = w.heap.size + 1 + 1) = False := eq_false (by omega)
  go_wp2
  refine bodyPost_ret (by simp [results, Try.results103, go_sem, ext_cell, kp, *]; try rfl) rfl ?_
  exact ⟨rfl, kk, kk, by (with_reducible repeat (first | exact HB1 | refine But.drewN ?_ | refine But.drew ?_ | refine But.ext ?_ (by first | omega | (simp [ext_size, World.setCell] <;> omega)) _ _ | refine But.alloc ?_ (by first | omega | (simp [ext_size, World.setCell] <;> omega)) _ | refine But.set ?_ _ | refine But.setNew ?_ (by first | omega | (simp [ext_size, World.setCell] <;> omega)) (by first | omega | (simp [ext_size, World.setCell] <;> omega)) _))⟩

theorem circle_Mul (ge : Nat) (e0 a b c d x y e : Int) (A : e0 = 0 → ∀ w : World, Calls Try.prog 104 #[.agg #[.int .i64 a, .int .i64 b], .agg #[.int .i64 c, .int .i64 d]] w fun r w' => r = .returned (.tuple #[.agg #[.int .i64 x, .int .i64 y], .int .i64 e]) ∧ Below w.heap.size w w') (w : World) (hg : ge < w.heap.size)
    (c0 : w.cell? ⟨ge, 0, none⟩ = some (.int .i64 e0)) (f0 : w.frozen? ⟨ge, 0, none⟩ = false) :
    Calls Try.prog 103 #[.func (.func 104) #[] #[], .agg #[.int .i64 a, .int .i64 b], .agg #[.int .i64 c, .int .i64 d], .pointer (some ⟨ge, 0, none⟩)] w fun r w' => r = .returned (.agg #[.int .i64 (vz e0 x), .int .i64 (vz e0 y)]) ∧ w'.cell? ⟨ge, 0, none⟩ = some (.int .i64 (if e0 = 0 then e else e0)) ∧ w'.frozen? ⟨ge, 0, none⟩ = false ∧ But ge w w' := by
  by_cases h : e0 = 0
  · subst h
    rw [if_pos rfl, vz0, vz0]
    exact circle_Mul0 ge a b c d x y e (A rfl) w hg c0 f0
  · rw [if_neg h, vzn h, vzn h]
    exact circle_none _ ge a b c d e0 (by simp [h]) w hg c0 f0

set_option maxRecDepth 100000 in
set_option maxHeartbeats 1600000 in
theorem circle_Sub0 (ge : Nat) (a b c d x y e : Int) (A : ∀ w : World, Calls Try.prog 105 #[.agg #[.int .i64 a, .int .i64 b], .agg #[.int .i64 c, .int .i64 d]] w fun r w' => r = .returned (.tuple #[.agg #[.int .i64 x, .int .i64 y], .int .i64 e]) ∧ Below w.heap.size w w') (w : World) (hg : ge < w.heap.size)
    (c0 : w.cell? ⟨ge, 0, none⟩ = some (.int .i64 0)) (f0 : w.frozen? ⟨ge, 0, none⟩ = false) :
    Calls Try.prog 103 #[.func (.func 105) #[] #[], .agg #[.int .i64 a, .int .i64 b], .agg #[.int .i64 c, .int .i64 d], .pointer (some ⟨ge, 0, none⟩)] w fun r w' => r = .returned (.agg #[.int .i64 x, .int .i64 y]) ∧ w'.cell? ⟨ge, 0, none⟩ = some (.int .i64 e) ∧ w'.frozen? ⟨ge, 0, none⟩ = false ∧ But ge w w' := by
  have dAl := dAl; have dSt := dSt
  go_enter Try.func103, Try.ntmps103
  go_upto_region 1 with fail
  refine opq (fun wx => wx.cell? ⟨w.heap.size, 0, none⟩ = some (.int .i64 a) ∧ wx.cell? ⟨w.heap.size, 1, none⟩ = some (.int .i64 b) ∧ wx.cell? ⟨w.heap.size + 1, 0, none⟩ = some (.int .i64 c) ∧ wx.cell? ⟨w.heap.size + 1, 1, none⟩ = some (.int .i64 d) ∧ wx.cell? ⟨w.heap.size + 1 + 1, 0, none⟩ = some (.int .i64 0) ∧ wx.cell? ⟨w.heap.size + 1 + 1, 1, none⟩ = some (.int .i64 0) ∧ wx.frozen? ⟨w.heap.size + 1 + 1, 0, none⟩ = false ∧ wx.frozen? ⟨w.heap.size + 1 + 1, 1, none⟩ = false ∧ wx.cell? ⟨ge, 0, none⟩ = some (.int .i64 0) ∧ wx.frozen? ⟨ge, 0, none⟩ = false ∧ w.heap.size + 1 + 1 < wx.heap.size ∧ But ge w wx) ?_ ?_
  · have z1 : ge < w.heap.size + 1 := by omega
    have z2 : ge < w.heap.size + 1 + 1 := by omega
    exact ⟨kk, kk, kk, kk, kk, kk, kk, kk, kk, kk, by simp, by (with_reducible repeat (first | exact But.refl _ _ | refine But.drewN ?_ | refine But.drew ?_ | refine But.ext ?_ (by first | omega | (simp [ext_size, World.setCell] <;> omega)) _ _ | refine But.alloc ?_ (by first | omega | (simp [ext_size, World.setCell] <;> omega)) _ | refine But.set ?_ _ | refine But.setNew ?_ (by first | omega | (simp [ext_size, World.setCell] <;> omega)) (by first | omega | (simp [ext_size, World.setCell] <;> omega)) _))⟩
  rintro wa ⟨k0, k1, k2, k3, k4, k5, k6, k7, g0, g1, zs, HB⟩
  have zg : ge < wa.heap.size := by omega
  have zh : w.heap.size < wa.heap.size := by omega
  have zi : w.heap.size + 1 < wa.heap.size := by omega
  have q0 : (ge = w.heap.size) = False := eq_false (by omega)
  have q1 : (ge = w.heap.size + 1) = False := eq_false (by omega)
  have q2 : (ge = w.heap.size + 1 + 1) = False := eq_false (by omega)
  have q3 : (w.heap.size = ge) = False := eq_false (by omega)
  have q4 : (w.heap.size + 1 = ge) = False := eq_false (by omega)
  have q5 : (w.heap.size + 1 + 1 = ge) = False := eq_false (by omega)
  go_wp2_with fail
  with_reducible refine (A _).mono ?_
  rintro r w1 ⟨rfl, hb⟩
  have hs : wa.heap.size < w1.heap.size := by have := hb.size; simp at this; omega
  have t0 : w1.cell? ⟨wa.heap.size, 0, none⟩ = some (.int .i64 0) := (hb.cell (show wa.heap.size < _ by simp)).trans kk
  have t1 : w1.cell? ⟨wa.heap.size, 1, none⟩ = some (.int .i64 0) := (hb.cell (show wa.heap.size < _ by simp)).trans kk
  have t2 : w1.frozen? ⟨wa.heap.size, 0, none⟩ = false := (hb.frozen (show wa.heap.size < _ by simp)).trans kk
  have t3 : w1.frozen? ⟨wa.heap.size, 1, none⟩ = false := (hb.frozen (show wa.heap.size < _ by simp)).trans kk
  replace k4 : w1.cell? ⟨w.heap.size + 1 + 1, 0, none⟩ = some (.int .i64 0) := (hb.cell (show w.heap.size + 1 + 1 < _ by simp <;> omega)).trans kk
  replace k5 : w1.cell? ⟨w.heap.size + 1 + 1, 1, none⟩ = some (.int .i64 0) := (hb.cell (show w.heap.size + 1 + 1 < _ by simp <;> omega)).trans kk
  replace k6 : w1.frozen? ⟨w.heap.size + 1 + 1, 0, none⟩ = false := (hb.frozen (show w.heap.size + 1 + 1 < _ by simp <;> omega)).trans kk
  replace k7 : w1.frozen? ⟨w.heap.size + 1 + 1, 1, none⟩ = false := (hb.frozen (show w.heap.size + 1 + 1 < _ by simp <;> omega)).trans kk
  replace g0 : w1.cell? ⟨ge, 0, none⟩ = some (.int .i64 0) := (hb.cell (show ge < _ by simp <;> omega)).trans kk
  replace g1 : w1.frozen? ⟨ge, 0, none⟩ = false := (hb.frozen (show ge < _ by simp <;> omega)).trans kk
  have HB1 : But ge w w1 := HB.trans ((But.alloc (But.refl ge wa) (by omega) _).trans (But.of_below hb (by simp) (by simp <;> omega)))
  clear hb A k0 k1 k2 k3 HB
  have p0 : (ge = wa.heap.size) = False := eq_false (by omega)
  have p1 : (wa.heap.size = ge) = False := eq_false (by omega)
  have p2 : (w.heap.size + 1 + 1 = wa.heap.size) = False := eq_false (by omega)
  have p3 : (wa.heap.size = w.heap.size + 1 + 1) = False := eq_false (by omega)
  go_wp2
  refine bodyPost_ret (by simp [results, Try.results103, go_sem, ext_cell, kp, *]; try rfl) rfl ?_
  exact ⟨rfl, kk, kk, by (with_reducible repeat (first | exact HB1 | refine But.drewN ?_ | refine But.drew ?_ | refine But.ext ?_ (by first | omega | (simp [ext_size, World.setCell] <;> omega)) _ _ | refine But.alloc ?_ (by first | omega | (simp [ext_size, World.setCell] <;> omega)) _ | refine But.set ?_ _ | refine But.setNew ?_ (by first | omega | (simp [ext_size, World.setCell] <;> omega)) (by first | omega | (simp [ext_size, World.setCell] <;> omega)) _))⟩

theorem circle_Sub (ge : Nat) (e0 a b c d x y e : Int) (A : e0 = 0 → ∀ w : World, Calls Try.prog 105 #[.agg #[.int .i64 a, .int .i64 b], .agg #[.int .i64 c, .int .i64 d]] w fun r w' => r = .returned (.tuple #[.agg #[.int .i64 x, .int .i64 y], .int .i64 e]) ∧ Below w.heap.size w w') (w : World) (hg : ge < w.heap.size)
    (c0 : w.cell? ⟨ge, 0, none⟩ = some (.int .i64 e0)) (f0 : w.frozen? ⟨ge, 0, none⟩ = false) :
    Calls Try.prog 103 #[.func (.func 105) #[] #[], .agg #[.int .i64 a, .int .i64 b], .agg #[.int .i64 c, .int .i64 d], .pointer (some ⟨ge, 0, none⟩)] w fun r w' => r = .returned (.agg #[.int .i64 (vz e0 x), .int .i64 (vz e0 y)]) ∧ w'.cell? ⟨ge, 0, none⟩ = some (.int .i64 (if e0 = 0 then e else e0)) ∧ w'.frozen? ⟨ge, 0, none⟩ = false ∧ But ge w w' := by
  by_cases h : e0 = 0
  · subst h
    rw [if_pos rfl, vz0, vz0]
    exact circle_Sub0 ge a b c d x y e (A rfl) w hg c0 f0
  · rw [if_neg h, vzn h, vzn h]
    exact circle_none _ ge a b c d e0 (by simp [h]) w hg c0 f0

set_option maxRecDepth 100000 in
set_option maxHeartbeats 1600000 in
theorem circle_Add0 (ge : Nat) (a b c d x y e : Int) (A : ∀ w : World, Calls Try.prog 106 #[.agg #[.int .i64 a, .int .i64 b], .agg #[.int .i64 c, .int .i64 d]] w fun r w' => r = .returned (.tuple #[.agg #[.int .i64 x, .int .i64 y], .int .i64 e]) ∧ Below w.heap.size w w') (w : World) (hg : ge < w.heap.size)
    (c0 : w.cell? ⟨ge, 0, none⟩ = some (.int .i64 0)) (f0 : w.frozen? ⟨ge, 0, none⟩ = false) :
    Calls Try.prog 103 #[.func (.func 106) #[] #[], .agg #[.int .i64 a, .int .i64 b], .agg #[.int .i64 c, .int .i64 d], .pointer (some ⟨ge, 0, none⟩)] w fun r w' => r = .returned (.agg #[.int .i64 x, .int .i64 y]) ∧ w'.cell? ⟨ge, 0, none⟩ = some (.int .i64 e) ∧ w'.frozen? ⟨ge, 0, none⟩ = false ∧ But ge w w' := by
  have dAl := dAl; have dSt := dSt
  go_enter Try.func103, Try.ntmps103
  go_upto_region 1 with fail
  refine opq (fun wx => wx.cell? ⟨w.heap.size, 0, none⟩ = some (.int .i64 a) ∧ wx.cell? ⟨w.heap.size, 1, none⟩ = some (.int .i64 b) ∧ wx.cell? ⟨w.heap.size + 1, 0, none⟩ = some (.int .i64 c) ∧ wx.cell? ⟨w.heap.size + 1, 1, none⟩ = some (.int .i64 d) ∧ wx.cell? ⟨w.heap.size + 1 + 1, 0, none⟩ = some (.int .i64 0) ∧ wx.cell? ⟨w.heap.size + 1 + 1, 1, none⟩ = some (.int .i64 0) ∧ wx.frozen? ⟨w.heap.size + 1 + 1, 0, none⟩ = false ∧ wx.frozen? ⟨w.heap.size + 1 + 1, 1, none⟩ = false ∧ wx.cell? ⟨ge, 0, none⟩ = some (.int .i64 0) ∧ wx.frozen? ⟨ge, 0, none⟩ = false ∧ w.heap.size + 1 + 1 < wx.heap.size ∧ But ge w wx) ?_ ?_
  · have z1 : ge < w.heap.size + 1 := by omega
    have z2 : ge < w.heap.size + 1 + 1 := by omega
    exact ⟨kk, kk, kk, kk, kk, kk, kk, kk, kk, kk, by simp, by (with_reducible repeat (first | exact But.refl _ _ | refine But.drewN ?_ | refine But.drew ?_ | refine But.ext ?_ (by first | omega | (simp [ext_size, World.setCell] <;> omega)) _ _ | refine But.alloc ?_ (by first | omega | (simp [ext_size, World.setCell] <;> omega)) _ | refine But.set ?_ _ | refine But.setNew ?_ (by first | omega | (simp [ext_size, World.setCell] <;> omega)) (by first | omega | (simp [ext_size, World.setCell] <;> omega)) _))⟩
  rintro wa ⟨k0, k1, k2, k3, k4, k5, k6, k7, g0, g1, zs, HB⟩
  have zg : ge < wa.heap.size := by omega
  have zh : w.heap.size < wa.heap.size := by omega
  have zi : w.heap.size + 1 < wa.heap.size := by omega
  have q0 : (ge = w.heap.size) = False := eq_false (by omega)
  have q1 : (ge = w.heap.size + 1) = False := eq_false (by omega)
  have q2 : (ge = w.heap.size + 1 + 1) = False := eq_false (by omega)
  have q3 : (w.heap.size = ge) = False := eq_false (by omega)
  have q4 : (w.heap.size + 1 = ge) = False := eq_false (by omega)
  have q5 : (w.heap.size + 1 + 1 = ge) = False := eq_false (by omega)
  go_wp2_with fail
  with_reducible refine (A _).mono ?_
  rintro r w1 ⟨rfl, hb⟩
  have hs : wa.heap.size < w1.heap.size := by have := hb.size; simp at this; omega
  have t0 : w1.cell? ⟨wa.heap.size, 0, none⟩ = some (.int .i64 0) := (hb.cell (show wa.heap.size < _ by simp)).trans kk
  have t1 : w1.cell? ⟨wa.heap.size, 1, none⟩ = some (.int .i64 0) := (hb.cell (show wa.heap.size < _ by simp)).trans kk
  have t2 : w1.frozen? ⟨wa.heap.size, 0, none⟩ = false := (hb.frozen (show wa.heap.size < _ by simp)).trans kk
  have t3 : w1.frozen? ⟨wa.heap.size, 1, none⟩ = false := (hb.frozen (show wa.heap.size < _ by simp)).trans kk
  replace k4 : w1.cell? ⟨w.heap.size + 1 + 1, 0, none⟩ = some (.int .i64 0) := (hb.cell (show w.heap.size + 1 + 1 < _ by simp <;> omega)).trans kk
  replace k5 : w1.cell? ⟨w.heap.size + 1 + 1, 1, none⟩ = some (.int .i64 0) := (hb.cell (show w.heap.size + 1 + 1 < _ by simp <;> omega)).trans kk
  replace k6 : w1.frozen? ⟨w.heap.size + 1 + 1, 0, none⟩ = false := (hb.frozen (show w.heap.size + 1 + 1 < _ by simp <;> omega)).trans kk
  replace k7 : w1.frozen? ⟨w.heap.size + 1 + 1, 1, none⟩ = false := (hb.frozen (show w.heap.size + 1 + 1 < _ by simp <;> omega)).trans kk
  replace g0 : w1.cell? ⟨ge, 0, none⟩ = some (.int .i64 0) := (hb.cell (show ge < _ by simp <;> omega)).trans kk
  replace g1 : w1.frozen? ⟨ge, 0, none⟩ = false := (hb.frozen (show ge < _ by simp <;> omega)).trans kk
  have HB1 : But ge w w1 := HB.trans ((But.alloc (But.refl ge wa) (by omega) _).trans (But.of_below hb (by simp) (by simp <;> omega)))
  clear hb A k0 k1 k2 k3 HB
  have p0 : (ge = wa.heap.size) = False := eq_false (by omega)
  have p1 : (wa.heap.size = ge) = False := eq_false (by omega)
  have p2 : (w.heap.size + 1 + 1 = wa.heap.size) = False := eq_false (by omega)
  have p3 : (wa.heap.size = w.heap.size + 1 + 1) = False := eq_false (by omega)
  go_wp2
  refine bodyPost_ret (by simp [results, Try.results103, go_sem, ext_cell, kp, *]; try rfl) rfl ?_
  exact ⟨rfl, kk, kk, by (with_reducible repeat (first | exact HB1 | refine But.drewN ?_ | refine But.drew ?_ | refine But.ext ?_ (by first | omega | (simp [ext_size, World.setCell] <;> omega)) _ _ | refine But.alloc ?_ (by first | omega | (simp [ext_size, World.setCell] <;> omega)) _ | refine But.set ?_ _ | refine But.setNew ?_ (by first | omega | (simp [ext_size, World.setCell] <;> omega)) (by first | omega | (simp [ext_size, World.setCell] <;> omega)) _))⟩

theorem circle_Add (ge : Nat) (e0 a b c d x y e : Int) (A : e0 = 0 → ∀ w : World, Calls Try.prog 106 #[.agg #[.int .i64 a, .int .i64 b], .agg #[.int .i64 c, .int .i64 d]] w fun r w' => r = .returned (.tuple #[.agg #[.int .i64 x, .int .i64 y], .int .i64 e]) ∧ Below w.heap.size w w') (w : World) (hg : ge < w.heap.size)
    (c0 : w.cell? ⟨ge, 0, none⟩ = some (.int .i64 e0)) (f0 : w.frozen? ⟨ge, 0, none⟩ = false) :
    Calls Try.prog 103 #[.func (.func 106) #[] #[], .agg #[.int .i64 a, .int .i64 b], .agg #[.int .i64 c, .int .i64 d], .pointer (some ⟨ge, 0, none⟩)] w fun r w' => r = .returned (.agg #[.int .i64 (vz e0 x), .int .i64 (vz e0 y)]) ∧ w'.cell? ⟨ge, 0, none⟩ = some (.int .i64 (if e0 = 0 then e else e0)) ∧ w'.frozen? ⟨ge, 0, none⟩ = false ∧ But ge w w' := by
  by_cases h : e0 = 0
  · subst h
    rw [if_pos rfl, vz0, vz0]
    exact circle_Add0 ge a b c d x y e (A rfl) w hg c0 f0
  · rw [if_neg h, vzn h, vzn h]
    exact circle_none _ ge a b c d e0 (by simp [h]) w hg c0 f0

set_option maxRecDepth 100000 in
set_option maxHeartbeats 1600000 in
theorem circle_Div0 (ge : Nat) (a b c d x y e : Int) (A : ∀ w : World, Calls Try.prog 107 #[.agg #[.int .i64 a, .int .i64 b], .agg #[.int .i64 c, .int .i64 d]] w fun r w' => r = .returned (.tuple #[.agg #[.int .i64 x, .int .i64 y], .int .i64 e]) ∧ Below w.heap.size w w') (w : World) (hg : ge < w.heap.size)
    (c0 : w.cell? ⟨ge, 0, none⟩ = some (.int .i64 0)) (f0 : w.frozen? ⟨ge, 0, none⟩ = false) :
    Calls Try.prog 103 #[.func (.func 107) #[] #[], .agg #[.int .i64 a, .int .i64 b], .agg #[.int .i64 c, .int .i64 d], .pointer (some ⟨ge, 0, none⟩)] w fun r w' => r = .returned (.agg #[.int .i64 x, .int .i64 y]) ∧ w'.cell? ⟨ge, 0, none⟩ = some (.int .i64 e) ∧ w'.frozen? ⟨ge, 0, none⟩ = false ∧ But ge w w' := by
  have dAl := dAl; have dSt := dSt
  go_enter Try.func103, Try.ntmps103
  go_upto_region 1 with fail
  refine opq (fun wx => wx.cell? ⟨w.heap.size, 0, none⟩ = some (.int .i64 a) ∧ wx.cell? ⟨w.heap.size, 1, none⟩ = some (.int .i64 b) ∧ wx.cell? ⟨w.heap.size + 1, 0, none⟩ = some (.int .i64 c) ∧ wx.cell? ⟨w.heap.size + 1, 1, none⟩ = some (.int .i64 d) ∧ wx.cell? ⟨w.heap.size + 1 + 1, 0, none⟩ = some (.int .i64 0) ∧ wx.cell? ⟨w.heap.size + 1 + 1, 1, none⟩ = some (.int .i64 0) ∧ wx.frozen? ⟨w.heap.size + 1 + 1, 0, none⟩ = false ∧ wx.frozen? ⟨w.heap.size + 1 + 1, 1, none⟩ = false ∧ wx.cell? ⟨ge, 0, none⟩ = some (.int .i64 0) ∧ wx.frozen? ⟨ge, 0, none⟩ = false ∧ w.heap.size + 1 + 1 < wx.heap.size ∧ But ge w wx) ?_ ?_
  · have z1 : ge < w.heap.size + 1 := by omega
    have z2 : ge < w.heap.size + 1 + 1 := by omega
    exact ⟨kk, kk, kk, kk, kk, kk, kk, kk, kk, kk, by simp, by (with_reducible repeat (first | exact But.refl _ _ | refine But.drewN ?_ | refine But.drew ?_ | refine But.ext ?_ (by first | omega | (simp [ext_size, World.setCell] <;> omega)) _ _ | refine But.alloc ?_ (by first | omega | (simp [ext_size, World.setCell] <;> omega)) _ | refine But.set ?_ _ | refine But.setNew ?_ (by first | omega | (simp [ext_size, World.setCell] <;> omega)) (by first | omega | (simp [ext_size, World.setCell] <;> omega)) _))⟩
  rintro wa ⟨k0, k1, k2, k3, k4, k5, k6, k7, g0, g1, zs, HB⟩
  have zg : ge < wa.heap.size := by omega
  have zh : w.heap.size < wa.heap.size := by omega
  have zi : w.heap.size + 1 < wa.heap.size := by omega
  have q0 : (ge = w.heap.size) = False := eq_false (by omega)
  have q1 : (ge = w.heap.size + 1) = False := eq_false (by omega)
  have q2 : (ge = w.heap.size + 1 + 1) = False := eq_false (by omega)
  have q3 : (w.heap.size = ge) = False := eq_false (by omega)
  have q4 : (w.heap.size + 1 = ge) = False := eq_false (by omega)
  have q5 : (w.heap.size + 1 + 1 = ge) = False := eq_false (by omega)
  go_wp2_with fail
  with_reducible refine (A _).mono ?_
  rintro r w1 ⟨rfl, hb⟩
  have hs : wa.heap.size < w1.heap.size := by have := hb.size; simp at this; omega
  have t0 : w1.cell? ⟨wa.heap.size, 0, none⟩ = some (.int .i64 0) := (hb.cell (show wa.heap.size < _ by simp)).trans kk
  have t1 : w1.cell? ⟨wa.heap.size, 1, none⟩ = some (.int .i64 0) := (hb.cell (show wa.heap.size < _ by simp)).trans kk
  have t2 : w1.frozen? ⟨wa.heap.size, 0, none⟩ = false := (hb.frozen (show wa.heap.size < _ by simp)).trans kk
  have t3 : w1.frozen? ⟨wa.heap.size, 1, none⟩ = false := (hb.frozen (show wa.heap.size < _ by simp)).trans kk
  replace k4 : w1.cell? ⟨w.heap.size + 1 + 1, 0, none⟩ = some (.int .i64 0) := (hb.cell (show w.heap.size + 1 + 1 < _ by simp <;> omega)).trans kk
  replace k5 : w1.cell? ⟨w.heap.size + 1 + 1, 1, none⟩ = some (.int .i64 0) := (hb.cell (show w.heap.size + 1 + 1 < _ by simp <;> omega)).trans kk
  replace k6 : w1.frozen? ⟨w.heap.size + 1 + 1, 0, none⟩ = false := (hb.frozen (show w.heap.size + 1 + 1 < _ by simp <;> omega)).trans kk
  replace k7 : w1.frozen? ⟨w.heap.size + 1 + 1, 1, none⟩ = false := (hb.frozen (show w.heap.size + 1 + 1 < _ by simp <;> omega)).trans kk
  replace g0 : w1.cell? ⟨ge, 0, none⟩ = some (.int .i64 0) := (hb.cell (show ge < _ by simp <;> omega)).trans kk
  replace g1 : w1.frozen? ⟨ge, 0, none⟩ = false := (hb.frozen (show ge < _ by simp <;> omega)).trans kk
  have HB1 : But ge w w1 := HB.trans ((But.alloc (But.refl ge wa) (by omega) _).trans (But.of_below hb (by simp) (by simp <;> omega)))
  clear hb A k0 k1 k2 k3 HB
  have p0 : (ge = wa.heap.size) = False := eq_false (by omega)
  have p1 : (wa.heap.size = ge) = False := eq_false (by omega)
  have p2 : (w.heap.size + 1 + 1 = wa.heap.size) = False := eq_false (by omega)
  have p3 : (wa.heap.size = w.heap.size + 1 + 1) = False := eq_false (by omega)
  go_wp2
  refine bodyPost_ret (by simp [results, Try.results103, go_sem, ext_cell, kp, *]; try rfl) rfl ?_
  exact ⟨rfl, kk, kk, by (with_reducible repeat (first | exact HB1 | refine But.drewN ?_ | refine But.drew ?_ | refine But.ext ?_ (by first | omega | (simp [ext_size, World.setCell] <;> omega)) _ _ | refine But.alloc ?_ (by first | omega | (simp [ext_size, World.setCell] <;> omega)) _ | refine But.set ?_ _ | refine But.setNew ?_ (by first | omega | (simp [ext_size, World.setCell] <;> omega)) (by first | omega | (simp [ext_size, World.setCell] <;> omega)) _))⟩

theorem circle_Div (ge : Nat) (e0 a b c d x y e : Int) (A : e0 = 0 → ∀ w : World, Calls Try.prog 107 #[.agg #[.int .i64 a, .int .i64 b], .agg #[.int .i64 c, .int .i64 d]] w fun r w' => r = .returned (.tuple #[.agg #[.int .i64 x, .int .i64 y], .int .i64 e]) ∧ Below w.heap.size w w') (w : World) (hg : ge < w.heap.size)
    (c0 : w.cell? ⟨ge, 0, none⟩ = some (.int .i64 e0)) (f0 : w.frozen? ⟨ge, 0, none⟩ = false) :
    Calls Try.prog 103 #[.func (.func 107) #[] #[], .agg #[.int .i64 a, .int .i64 b], .agg #[.int .i64 c, .int .i64 d], .pointer (some ⟨ge, 0, none⟩)] w fun r w' => r = .returned (.agg #[.int .i64 (vz e0 x), .int .i64 (vz e0 y)]) ∧ w'.cell? ⟨ge, 0, none⟩ = some (.int .i64 (if e0 = 0 then e else e0)) ∧ w'.frozen? ⟨ge, 0, none⟩ = false ∧ But ge w w' := by
  by_cases h : e0 = 0
  · subst h
    rw [if_pos rfl, vz0, vz0]
    exact circle_Div0 ge a b c d x y e (A rfl) w hg c0 f0
  · rw [if_neg h, vzn h, vzn h]
    exact circle_none _ ge a b c d e0 (by simp [h]) w hg c0 f0

end Go.Proofs.Ytdolfdmgdknboaa
