/-
  What SineSums states, of the numbers (no walk).
-/
import Derived.Test.YtilcgbloangcmaaUd
import Derived.Test.YtilcgbloangcmaaSh
namespace Go.Proofs.Ytilcgbloangcmaa
set_option linter.unusedVariables false
set_option linter.unusedSimpArgs false
/-- An enclosure of numbers from -1 to 1. -/
def unitS (a b : Int) : Prop := a ≤ b ∧ -1000000 ≤ a ∧ b ≤ 1000000
theorem mul_unit {a b c d : Int} (h1 : unitS a b) (h2 : unitS c d) : smE a b c d = 0 ∧ unitS (smL a b c d) (smH a b c d) ∧
    ∀ X Y : Int, a * 1000000000000 ≤ X → X ≤ b * 1000000000000 → c * 1000000000000 ≤ Y → Y ≤ d * 1000000000000 → smL a b c d * 1000000000000000000000000000000 ≤ X * Y ∧ X * Y ≤ smH a b c d * 1000000000000000000000000000000 := by
  obtain ⟨a1, a2, a3⟩ := h1
  obtain ⟨c1, c2, c3⟩ := h2
  have hb : bV a b c d = true := by simp [bV, spV]; omega
  have mb : ∀ u v : Int, -1000000 ≤ u ∧ u ≤ 1000000 → -1000000 ≤ v ∧ v ≤ 1000000 → -1000000000000 ≤ u * v ∧ u * v ≤ 1000000000000 := by
    intro u v hu hv
    have h := Nat.mul_le_mul (show u.natAbs ≤ 1000000 by omega) (show v.natAbs ≤ 1000000 by omega)
    rw [← Int.natAbs_mul] at h
    omega
  have m1 := mb a c (by omega) (by omega)
  have m2 := mb a d (by omega) (by omega)
  have m3 := mb b c (by omega) (by omega)
  have m4 := mb b d (by omega) (by omega)
  have L1 := mi4_bd m1 m2 m3 m4
  have L2 := ma4_bd m1 m2 m3 m4
  have lm : mi4 (a * c) (a * d) (b * c) (b * d) ≤ ma4 (a * c) (a * d) (b * c) (b * d) := by unfold mi4 ma4; omega
  have e1 : pL a b c d = mi4 (a * c) (a * d) (b * c) (b * d) / 1000000 := rfl
  have e2 : pH a b c d = -(-ma4 (a * c) (a * d) (b * c) (b * d) / 1000000) := rfl
  have u : unitS (pL a b c d) (pH a b c d) := by rw [e1, e2]; unfold unitS; omega
  have hv : spV (pL a b c d) (pH a b c d) = true := by unfold unitS at u; simp [spV]; omega
  rw [smE, smL, smH, if_pos hb, if_pos hb, if_pos hb, mdE, mdL, mdH, if_pos hv, if_pos hv, if_pos hv]
  refine ⟨rfl, u, ?_⟩
  intro X Y x1 x2 y1 y2
  obtain ⟨n1, n2⟩ := mul_ends x1 x2 y1 y2
  have s1 : a * 1000000000000 * (c * 1000000000000) = a * c * 1000000000000000000000000 := by grind
  have s2 : a * 1000000000000 * (d * 1000000000000) = a * d * 1000000000000000000000000 := by grind
  have s3 : b * 1000000000000 * (c * 1000000000000) = b * c * 1000000000000000000000000 := by grind
  have s4 : b * 1000000000000 * (d * 1000000000000) = b * d * 1000000000000000000000000 := by grind
  rw [s1, s2, s3, s4, mi4_mul (by omega)] at n1
  rw [s1, s2, s3, s4, ma4_mul (by omega)] at n2
  rw [e1, e2]
  omega
theorem add_unit {a b c d : Int} (h1 : unitS a b) (h2 : unitS c d) : saE a b c d = 0 ∧ saL a b c d = a + c ∧ saH a b c d = b + d := by
  obtain ⟨a1, a2, a3⟩ := h1
  obtain ⟨c1, c2, c3⟩ := h2
  have hb : bV a b c d = true := by simp [bV, spV]; omega
  have hv : spV (a + c) (b + d) = true := by simp [spV]; omega
  rw [saE, saL, saH, if_pos hb, if_pos hb, if_pos hb, mdE, mdL, mdH, if_pos hv, if_pos hv, if_pos hv]
  exact ⟨rfl, rfl, rfl⟩
theorem sub_unit {a b c d : Int} (h1 : a ≤ b ∧ -2000000 ≤ a ∧ b ≤ 2000000) (h2 : unitS c d) : ssE a b c d = 0 ∧ ssL a b c d = a - d ∧ ssH a b c d = b - c := by
  obtain ⟨a1, a2, a3⟩ := h1
  obtain ⟨c1, c2, c3⟩ := h2
  have hb : bV a b c d = true := by simp [bV, spV]; omega
  have hv : spV (a - d) (b - c) = true := by simp [spV]; omega
  rw [ssE, ssL, ssH, if_pos hb, if_pos hb, if_pos hb, mdE, mdL, mdH, if_pos hv, if_pos hv, if_pos hv]
  exact ⟨rfl, rfl, rfl⟩
theorem cs_unit (a : Int) (n : Nat) (h1 : 1 ≤ n) (h2 : n ≤ 720) : unitS (csL a n) (csH a n) := by
  have := cs_bd a n h1 h2
  unfold unitS; omega
/-- Sums of natural numbers of parts. -/
theorem nat_sums (n k l : Nat) (h1 : 1 ≤ n) (h2 : n ≤ 720) (hl : l ≤ 720) (a0 a1 b0 b1 c0 c1 d0 d1 x0 x1 y0 y1 : Int)
    (ea : a0 = csL (4 * k) n ∧ a1 = csH (4 * k) n) (eb : b0 = csL (4 * k - n) n ∧ b1 = csH (4 * k - n) n) (ec : c0 = csL (4 * l) n ∧ c1 = csH (4 * l) n) (ed : d0 = csL (4 * l - n) n ∧ d1 = csH (4 * l - n) n)
    (ex : x0 = csL (4 * (k + l : Nat)) n ∧ x1 = csH (4 * (k + l : Nat)) n) (ey : y0 = csL (4 * (k + l : Nat) - n) n ∧ y1 = csH (4 * (k + l : Nat) - n) n) :
    (smL a0 a1 c0 c1 - smH b0 b1 d0 d1 ≤ x1 ∧ x0 ≤ smH a0 a1 c0 c1 - smL b0 b1 d0 d1) ∧ (smL b0 b1 c0 c1 + smL a0 a1 d0 d1 ≤ y1 ∧ y0 ≤ smH b0 b1 c0 c1 + smH a0 a1 d0 d1) := by
  obtain ⟨s1, s2, s3⟩ := sums_all n k l h1 h2 hl
  rw [coI_eq _ _ h1, coI_eq _ _ h1, coI_eq _ _ h1, siI_eq _ _ h1, siI_eq _ _ h1] at s1
  rw [siI_eq _ _ h1, coI_eq _ _ h1, coI_eq _ _ h1, siI_eq _ _ h1, siI_eq _ _ h1] at s2
  have ua := cs_unit (4 * k) n h1 h2
  have ub := cs_unit (4 * k - n) n h1 h2
  have uc := cs_unit (4 * l) n h1 h2
  have ud := cs_unit (4 * l - n) n h1 h2
  have fa := (fc_bd (4 * k) n h1 h2).2
  have fb := (fc_bd (4 * k - n) n h1 h2).2
  have fc := (fc_bd (4 * l) n h1 h2).2
  have fd := (fc_bd (4 * l - n) n h1 h2).2
  have fx := (fc_bd (4 * (k + l : Nat)) n h1 h2).2
  have fy := (fc_bd (4 * (k + l : Nat) - n) n h1 h2).2
  rw [← ea.1, ← ea.2] at ua fa
  rw [← eb.1, ← eb.2] at ub fb
  rw [← ec.1, ← ec.2] at uc fc
  rw [← ed.1, ← ed.2] at ud fd
  rw [← ex.1, ← ex.2] at fx
  rw [← ey.1, ← ey.2] at fy
  have m1 := (mul_unit ua uc).2.2 _ _ fa.1 fa.2 fc.1 fc.2
  have m2 := (mul_unit ub ud).2.2 _ _ fb.1 fb.2 fd.1 fd.2
  have m3 := (mul_unit ub uc).2.2 _ _ fb.1 fb.2 fc.1 fc.2
  have m4 := (mul_unit ua ud).2.2 _ _ fa.1 fa.2 fd.1 fd.2
  clear ea eb ec ed ex ey fa fb fc fd s3
  unfold near at s1 s2
  omega
theorem nat_twice (n k : Nat) (h1 : 1 ≤ n) (h2 : n ≤ 720) (hk : k ≤ 720) (a0 a1 x0 x1 : Int)
    (ea : a0 = csL (4 * k) n ∧ a1 = csH (4 * k) n) (ex : x0 = csL (4 * (k + k : Nat)) n ∧ x1 = csH (4 * (k + k : Nat)) n) :
    x0 ≤ smH a0 a1 a0 a1 + smH a0 a1 a0 a1 - 1000000 ∧ smL a0 a1 a0 a1 + smL a0 a1 a0 a1 - 1000000 ≤ x1 := by
  obtain ⟨s1, s2, s3⟩ := sums_all n k k h1 h2 hk
  rw [coI_eq _ _ h1, coI_eq _ _ h1, siI_eq _ _ h1] at s1
  rw [coI_eq _ _ h1, siI_eq _ _ h1] at s3
  have ua := cs_unit (4 * k) n h1 h2
  have fa := (fc_bd (4 * k) n h1 h2).2
  have fx := (fc_bd (4 * (k + k : Nat)) n h1 h2).2
  rw [← ea.1, ← ea.2] at ua fa
  rw [← ex.1, ← ex.2] at fx
  have m1 := (mul_unit ua ua).2.2 _ _ fa.1 fa.2 fa.1 fa.2
  clear ea ex fa
  unfold near at s1 s3
  omega
/-- From any whole number of parts to one from 0 to n - 1. -/
theorem co_nat (k : Int) (n : Nat) (h1 : 1 ≤ n) (h2 : n ≤ 720) (j : Nat) (t : Int) (hj : k = j + n * t) : coL k n = csL (4 * j) n ∧ coH k n = csH (4 * j) n ∧ siL k n = csL (4 * j - n) n ∧ siH k n = csH (4 * j - n) n := by
  have hn : nOk (n : Int) = true := by simp [nOk]; omega
  have e1 : foN (4 * k.tmod n) n = foN (4 * j) n := by
    rw [← fo_turn (4 * (j : Int)) (t - k.tdiv n) n h1, Int.tmod_def]
    congr 1; grind
  have e2 : foN (4 * k.tmod n - n) n = foN (4 * j - n) n := by
    rw [← fo_turn (4 * (j : Int) - n) (t - k.tdiv n) n h1, Int.tmod_def]
    congr 1; grind
  obtain ⟨u1, u2⟩ := cs_congr e1
  obtain ⟨v1, v2⟩ := cs_congr e2
  rw [coL, coH, siL, siH, if_pos hn, if_pos hn, if_pos hn, if_pos hn, show ((n : Int)).toNat = n by omega, u1, u2, v1, v2]
  exact ⟨rfl, rfl, rfl, rfl⟩
theorem int_sums (k l : Int) (n : Nat) (h1 : 1 ≤ n) (h2 : n ≤ 720) :
    (smL (coL k n) (coH k n) (coL l n) (coH l n) - smH (siL k n) (siH k n) (siL l n) (siH l n) ≤ coH (k + l) n ∧ coL (k + l) n ≤ smH (coL k n) (coH k n) (coL l n) (coH l n) - smL (siL k n) (siH k n) (siL l n) (siH l n)) ∧
    (smL (siL k n) (siH k n) (coL l n) (coH l n) + smL (coL k n) (coH k n) (siL l n) (siH l n) ≤ siH (k + l) n ∧ siL (k + l) n ≤ smH (siL k n) (siH k n) (coL l n) (coH l n) + smH (coL k n) (coH k n) (siL l n) (siH l n)) ∧
    (coL (2 * k) n ≤ smH (coL k n) (coH k n) (coL k n) (coH k n) + smH (coL k n) (coH k n) (coL k n) (coH k n) - 1000000 ∧ smL (coL k n) (coH k n) (coL k n) (coH k n) + smL (coL k n) (coH k n) (coL k n) (coH k n) - 1000000 ≤ coH (2 * k) n) := by
  have ek := Int.mul_ediv_add_emod k n
  have el := Int.mul_ediv_add_emod l n
  have bk := Int.emod_nonneg k (show (n : Int) ≠ 0 by omega)
  have bk2 := Int.emod_lt_of_pos k (show (0 : Int) < n by omega)
  have bl := Int.emod_nonneg l (show (n : Int) ≠ 0 by omega)
  have bl2 := Int.emod_lt_of_pos l (show (0 : Int) < n by omega)
  obtain ⟨i, hi⟩ := Int.eq_ofNat_of_zero_le bk
  obtain ⟨j, hj⟩ := Int.eq_ofNat_of_zero_le bl
  rw [hi] at ek bk2
  rw [hj] at el bl2
  obtain ⟨k1, k2, k3, k4⟩ := co_nat k n h1 h2 i (k / n) (by omega)
  obtain ⟨l1, l2, l3, l4⟩ := co_nat l n h1 h2 j (l / n) (by omega)
  obtain ⟨x1, x2, x3, x4⟩ := co_nat (k + l) n h1 h2 (i + j) (k / n + l / n) (by rw [Int.mul_add]; omega)
  obtain ⟨t1, t2, t3, t4⟩ := co_nat (2 * k) n h1 h2 (i + i) (k / n + k / n) (by rw [Int.mul_add]; omega)
  obtain ⟨s1, s2⟩ := nat_sums n i j h1 h2 (by omega) _ _ _ _ _ _ _ _ _ _ _ _ ⟨k1, k2⟩ ⟨k3, k4⟩ ⟨l1, l2⟩ ⟨l3, l4⟩ ⟨x1, x2⟩ ⟨x3, x4⟩
  exact ⟨s1, s2, nat_twice n i h1 h2 (by omega) _ _ _ _ ⟨k1, k2⟩ ⟨t1, t2⟩⟩
end Go.Proofs.Ytilcgbloangcmaa
