/-
  The theorems of sums for the enclosures (no walk).
-/
import Derived.Test.YtmjbeplcabomdaaUc
import Derived.Test.YtmjbeplcabomdaaTe
namespace Go.Proofs.Ytmjbeplcabomdaa
set_option linter.unusedVariables false
set_option linter.unusedSimpArgs false
theorem xv_val {a n : Nat} (h1 : 1 ≤ n) (h2 : n ≤ 720) (ha : a ≤ n) : xvN a n ≤ 1000000000000000000 ∧ acL a n * 1000000000000 ≤ xvN a n ∧ xvN a n ≤ acH a n * 1000000000000 := by
  by_cases e0 : a = 0
  · subst e0
    have e : xvN 0 n = 1000000000000000000 := by rw [xvN, condT (beqT rfl)]
    rw [e, (ac_zero n).1, (ac_zero n).2]; omega
  · by_cases e1 : 3 * a = 2 * n
    · obtain ⟨u, v⟩ := ac_half e0 e1
      have e : xvN a n = 500000000000000000 := by rw [xvN, condF (beqF e0), nmul, nmul, condT (beqT e1)]
      rw [e, u, v]; omega
    · by_cases e2 : a = n
      · subst e2
        obtain ⟨u, v⟩ := ac_full e0
        have e : xvN a a = 0 := by rw [xvN, condF (beqF e0), nmul, nmul, condF (beqF e1), condT (beqT rfl)]
        rw [e, u, v]; omega
      · obtain ⟨u, v⟩ := ac_else e0 e1 e2
        obtain ⟨p, q, r⟩ := last_all n a h1 h2 (by omega) (by omega) e1
        have e : xvN a n = xsN a n := by rw [xvN, condF (beqF e0), nmul, nmul, condF (beqF e1), condF (beqF e2)]
        have hx := xs_eq a n
        rw [e, u, v]
        generalize xsN a n = x at *
        omega
/-- The cosine at the fine scale. -/
def fcI (a : Int) (n : Nat) : Int := if n < foN a n then -((xvN (2 * n - foN a n) n : Nat) : Int) else (xvN (foN a n) n : Nat)
theorem fc_bd (a : Int) (n : Nat) (h1 : 1 ≤ n) (h2 : n ≤ 720) : (-1000000000000000000 ≤ fcI a n ∧ fcI a n ≤ 1000000000000000000) ∧ csL a n * 1000000000000 ≤ fcI a n ∧ fcI a n ≤ csH a n * 1000000000000 := by
  obtain ⟨g, _⟩ := fo_spec a n h1
  unfold fcI csL csH
  by_cases c : n < foN a n
  · obtain ⟨x1, x2, x3⟩ := xv_val h1 h2 (show 2 * n - foN a n ≤ n by omega)
    simp only [c, if_true]
    omega
  · obtain ⟨x1, x2, x3⟩ := xv_val h1 h2 (show foN a n ≤ n by omega)
    simp only [c, if_false]
    omega
theorem fc_congr {a b : Int} {n : Nat} (e : foN a n = foN b n) : fcI a n = fcI b n := by unfold fcI; rw [e]
theorem xf_eq (f n : Nat) : xfI f n = if n < f then -((xvN (2 * n - f) n : Nat) : Int) else (xvN f n : Nat) := by
  rw [xfI]
  by_cases c : n < f
  · have e : Nat.ble f n = false := bleF (by omega)
    rw [e, if_pos c, nsub, nmul]
    show Int.negOfNat _ = _
    exact Int.negOfNat_eq
  · have e : Nat.ble f n = true := bleT (by omega)
    rw [e, if_neg c]
    rfl
theorem xr_eq (r n : Nat) (a t : Int) (h1 : 1 ≤ n) (hr : r < 4 * n) (ha : a = r + 4 * n * t) : xrI r n = fcI a n := by
  have hf : foN a n = if 2 * n ≤ r then 4 * n - r else r := by
    subst ha
    rw [fo_turn _ _ _ h1]
    by_cases c : 2 * n ≤ r
    · rw [if_pos c]
      exact fo_uniq _ n _ h1 (by omega) ⟨1, Or.inr (by omega)⟩
    · rw [if_neg c]
      exact fo_uniq _ n _ h1 (by omega) ⟨0, Or.inl (by omega)⟩
  unfold fcI
  rw [hf, xrI]
  by_cases c : 2 * n ≤ r
  · have e : Nat.ble (Nat.mul 2 n) r = true := by rw [nmul]; exact bleT c
    rw [condT e, nsub, nmul, xf_eq, if_pos c]
  · have e : Nat.ble (Nat.mul 2 n) r = false := by rw [nmul]; exact bleF c
    rw [condF e, xf_eq, if_neg c]
theorem nmod (a b : Nat) : Nat.mod a b = a % b := Nat.le_antisymm (Nat.le_refl _) (Nat.le_refl _)
theorem coI_eq (j n : Nat) (h1 : 1 ≤ n) : coI j n = fcI (4 * j) n := by
  rw [coI, nmul, nmul, nmod]
  have e := Nat.mod_add_div (4 * j) (4 * n)
  refine xr_eq _ n _ ((4 * j / (4 * n) : Nat) : Int) h1 (Nat.mod_lt _ (by omega)) ?_
  have : ((4 * j % (4 * n) + 4 * n * (4 * j / (4 * n)) : Nat) : Int) = ((4 * j : Nat) : Int) := by rw [e]
  rw [Int.natCast_add, Int.natCast_mul, show ((4 * n : Nat) : Int) = 4 * n by omega, show ((4 * j : Nat) : Int) = 4 * j by omega] at this
  exact this.symm
theorem siI_eq (j n : Nat) (h1 : 1 ≤ n) : siI j n = fcI (4 * j - n) n := by
  rw [siI, nmul, nmul, nmul, nadd, nmod]
  have e := Nat.mod_add_div (4 * j + 3 * n) (4 * n)
  refine xr_eq _ n _ (((4 * j + 3 * n) / (4 * n) : Nat) - 1 : Int) h1 (Nat.mod_lt _ (by omega)) ?_
  have : (((4 * j + 3 * n) % (4 * n) + 4 * n * ((4 * j + 3 * n) / (4 * n)) : Nat) : Int) = ((4 * j + 3 * n : Nat) : Int) := by rw [e]
  rw [Int.natCast_add, Int.natCast_mul, show ((4 * n : Nat) : Int) = 4 * n by omega, show ((4 * j + 3 * n : Nat) : Int) = 4 * j + 3 * n by omega] at this
  rw [Int.mul_sub]
  omega
theorem period (j n : Nat) (h1 : 1 ≤ n) : coI j n = coI (j % n) n ∧ siI j n = siI (j % n) n := by
  rw [coI_eq _ _ h1, coI_eq _ _ h1, siI_eq _ _ h1, siI_eq _ _ h1]
  have e := Nat.mod_add_div j n
  have e2 : (j : Int) = ((j % n : Nat) : Int) + n * (j / n : Nat) := by
    have : ((j % n + n * (j / n) : Nat) : Int) = (j : Int) := by rw [e]
    push_cast at this
    omega
  constructor
  · refine fc_congr ?_
    rw [← fo_turn (4 * ((j % n : Nat) : Int)) ((j / n : Nat) : Int) n h1]
    congr 1
    rw [e2]; grind
  · refine fc_congr ?_
    rw [← fo_turn (4 * ((j % n : Nat) : Int) - n) ((j / n : Nat) : Int) n h1]
    congr 1
    rw [e2]; grind
theorem at_zero (n : Nat) (h1 : 1 ≤ n) : coI 0 n = 1000000000000000000 ∧ siI 0 n = 0 := by
  rw [coI_eq _ _ h1, siI_eq _ _ h1]
  have f1 : foN (4 * ((0 : Nat) : Int)) n = 0 := fo_uniq _ n 0 h1 (by omega) ⟨0, Or.inl (by omega)⟩
  have f2 : foN (4 * ((0 : Nat) : Int) - n) n = n := fo_uniq _ n n h1 (by omega) ⟨0, Or.inr (by omega)⟩
  unfold fcI
  rw [f1, f2, if_neg (by omega), if_neg (by omega)]
  have e1 : xvN 0 n = 1000000000000000000 := by rw [xvN, condT (beqT rfl)]
  have e2 : xvN n n = 0 := by rw [xvN, condF (beqF (by omega)), nmul, nmul, condF (beqF (by omega)), condT (beqT rfl)]
  rw [e1, e2]
  exact ⟨by omega, rfl⟩
end Go.Proofs.Ytmjbeplcabomdaa
