/-
  How far two sources are apart, in numbers (no walk).
-/
import Derived.Test.YtmjbeplcabomdaaPq
import Derived.Test.YtmjbeplcabomdaaPj
import Derived.Test.YtmjbeplcabomdaaUd
import Derived.Test.YtmjbeplcabomdaaUc
namespace Go.Proofs.Ytmjbeplcabomdaa
set_option linter.unusedVariables false
set_option linter.unusedSimpArgs false
set_option maxRecDepth 100000 in
theorem chain720 : chainN 720 720 = true := by decide +kernel
theorem step720 (j : Nat) : near 100000000000000000000 (1000000000000000000 * coI (j + 1) 720) (coI 1 720 * coI j 720 - siI 1 720 * siI j 720) ∧ near 100000000000000000000 (1000000000000000000 * siI (j + 1) 720) (siI 1 720 * coI j 720 + coI 1 720 * siI j 720) ∧ near 100000000000000000000 (coI j 720 * coI j 720 + siI j 720 * siI j 720) 1000000000000000000000000000000000000 := by
  have hm : j % 720 < 720 := Nat.mod_lt _ (by omega)
  have h := step_out (chainN_out chain720 (j % 720) (by omega))
  have e : (j + 1) % 720 = (j % 720 + 1) % 720 := (Nat.mod_add_mod j 720 1).symm
  have a1 := period j 720 (by omega)
  have a2 := period (j + 1) 720 (by omega)
  have a3 := period (j % 720 + 1) 720 (by omega)
  rw [e, ← a3.1, ← a3.2] at a2
  rw [a1.1, a1.2, a2.1, a2.2]
  exact h
theorem sums720 (k l : Nat) (hl : l ≤ 720) : near 432000000000000000000000 (1000000000000000000 * coI (k + l) 720) (coI k 720 * coI l 720 - siI k 720 * siI l 720) := by
  have z := at_zero 720 (by omega)
  have hc := (step720 1).2.2
  have bc : ∀ j, -1000000000000000000 ≤ coI j 720 ∧ coI j 720 ≤ 1000000000000000000 := fun j => by rw [coI_eq _ _ (by omega)]; exact (fc_bd _ 720 (by omega) (by omega)).1
  have bs : ∀ j, -1000000000000000000 ≤ siI j 720 ∧ siI j 720 ≤ 1000000000000000000 := fun j => by rw [siI_eq _ _ (by omega)]; exact (fc_bd _ 720 (by omega) (by omega)).1
  have ind := sums_ind (fun j => coI j 720) (fun j => siI j 720) z.1 z.2 bc bs (fun j => (step720 j).1) (fun j => (step720 j).2.1) (by unfold near at hc; show coI 1 720 * coI 1 720 + siI 1 720 * siI 1 720 ≤ _; omega) k l hl
  try dsimp only at ind
  have n1 := sq_nn (1000000000000000000 * coI (k + l) 720 - (coI k 720 * coI l 720 - siI k 720 * siI l 720))
  have n2 := sq_nn (1000000000000000000 * siI (k + l) 720 - (coI k 720 * siI l 720 + siI k 720 * coI l 720))
  generalize he : 1000000000000000000 * coI (k + l) 720 - (coI k 720 * coI l 720 - siI k 720 * siI l 720) = e at *
  generalize hf : 1000000000000000000 * siI (k + l) 720 - (coI k 720 * siI l 720 + siI k 720 * coI l 720) = f at *
  have b1 := abs_of_sq (x := e) (X := 600000000000000000000 * l) (by omega) (by omega)
  unfold near
  omega
/-- The cosine and the sine at the fine scale. -/
def fC (k : Int) : Int := fcI (4 * k) 720
def fS (k : Int) : Int := fcI (4 * k - 720) 720
theorem fC_in (k : Int) : cL k * 1000000000000 ≤ fC k ∧ fC k ≤ cH k * 1000000000000 ∧ -1000000000000000000 ≤ fC k ∧ fC k ≤ 1000000000000000000 := by
  have h := fc_bd (4 * k) 720 (by omega) (by omega)
  exact ⟨h.2.1, h.2.2, h.1.1, h.1.2⟩
theorem fS_in (k : Int) : sL k * 1000000000000 ≤ fS k ∧ fS k ≤ sH k * 1000000000000 ∧ -1000000000000000000 ≤ fS k ∧ fS k ≤ 1000000000000000000 := by
  have h := fc_bd (4 * k - 720) 720 (by omega) (by omega)
  exact ⟨h.2.1, h.2.2, h.1.1, h.1.2⟩
theorem f_nat (k : Int) : ∃ j : Nat, j ≤ 720 ∧ fC k = coI j 720 ∧ fS k = siI j 720 ∧ ∃ t : Int, (j : Int) = k + 720 * t := by
  refine ⟨(k % 720).toNat, by omega, ?_, ?_, -(k / 720), by omega⟩
  · rw [coI_eq _ _ (by omega)]
    refine fc_congr ?_
    rw [← fo_turn (4 * (((k % 720).toNat : Nat) : Int)) (k / 720) 720 (by omega)]
    congr 1; omega
  · rw [siI_eq _ _ (by omega)]
    refine fc_congr ?_
    rw [← fo_turn (4 * (((k % 720).toNat : Nat) : Int) - ((720 : Nat) : Int)) (k / 720) 720 (by omega)]
    congr 1; omega
theorem fC_per (k t : Int) : fC (k + 720 * t) = fC k := by
  refine fc_congr ?_
  rw [← fo_turn (4 * k) t 720 (by omega)]
  congr 1; omega
theorem fC_even (k : Int) : fC (-k) = fC k := by
  refine fc_congr ?_
  rw [← fo_neg (4 * k)]
  congr 1; omega
theorem fc_half (a b : Int) (e : foN b 720 = 2 * 720 - foN a 720) : fcI b 720 = -fcI a 720 := by
  obtain ⟨g, _⟩ := fo_spec a 720 (by omega)
  unfold fcI
  rw [e]
  generalize foN a 720 = f at *
  have e2 : 2 * 720 - (2 * 720 - f) = f := by omega
  by_cases k : 720 < f
  · have k1 : ¬ 720 < 2 * 720 - f := by omega
    rw [if_pos k, if_neg k1]; omega
  · by_cases k2 : f = 720
    · subst k2
      have ez : xvN 720 720 = 0 := by rw [xvN, condF (beqF (by omega)), nmul, nmul, condF (beqF (by omega)), condT (beqT rfl)]
      have e3 : 2 * 720 - 720 = 720 := rfl
      rw [if_neg (by omega), e3, ez]
      rfl
    · have k1 : 720 < 2 * 720 - f := by omega
      rw [if_neg k, if_pos k1, e2]
theorem fS_odd (k : Int) : fS (-k) = -fS k := by
  refine fc_half _ _ ?_
  rw [← fo_half (4 * k - 720) 0 720 (by omega), ← fo_neg]
  congr 1; omega
/-- The cosine of a difference. -/
theorem fC_sub (k l : Int) : near 432000000000000000000000 (1000000000000000000 * fC (k - l)) (fC k * fC l + fS k * fS l) := by
  obtain ⟨i, hi, c1, s1, t1, e1⟩ := f_nat k
  obtain ⟨j, hj, c2, s2, t2, e2⟩ := f_nat (-l)
  have h := sums720 i j hj
  obtain ⟨m, _, c3, _, t3, e3⟩ := f_nat (k - l)
  have e : coI (i + j) 720 = fC (k - l) := by
    rw [coI_eq _ _ (by omega)]
    show fC (((i + j : Nat) : Int)) = fC (k - l)
    rw [← fC_per (k - l) (t1 + t2)]
    congr 1; push_cast; omega
  rw [e, ← c1, ← c2, ← s1, ← s2, fC_even, fS_odd] at h
  have : fC k * fC l - fS k * -fS l = fC k * fC l + fS k * fS l := by grind
  rw [this] at h
  exact h
theorem mul_scale {a b c d K X Y : Int} (hK : 0 < K) (L : Int) (hL : 0 < L) (h1 : unitS a b) (h2 : unitS c d) (x1 : a * K ≤ X) (x2 : X ≤ b * K) (y1 : c * L ≤ Y) (y2 : Y ≤ d * L) :
    smL a b c d * (1000000 * (K * L)) ≤ X * Y ∧ X * Y ≤ smH a b c d * (1000000 * (K * L)) := by
  have hu := mul_unit h1 h2
  obtain ⟨n1, n2⟩ := mul_ends x1 x2 y1 y2
  have hKL : 0 < K * L := Int.mul_pos hK hL
  have s1 : a * K * (c * L) = a * c * (K * L) := by grind
  have s2 : a * K * (d * L) = a * d * (K * L) := by grind
  have s3 : b * K * (c * L) = b * c * (K * L) := by grind
  have s4 : b * K * (d * L) = b * d * (K * L) := by grind
  rw [s1, s2, s3, s4, mi4_mul (by omega)] at n1
  rw [s1, s2, s3, s4, ma4_mul (by omega)] at n2
  have hb := (sm_valid hu.1).2
  have he := hu.1
  rw [smE, if_pos hb] at he
  obtain ⟨e1, e2, _⟩ := md_out he
  rw [smL, smH, if_pos hb, if_pos hb, e1, e2]
  have t1 : pL a b c d * 1000000 ≤ mi4 (a * c) (a * d) (b * c) (b * d) := by unfold pL mn4; omega
  have t2 : ma4 (a * c) (a * d) (b * c) (b * d) ≤ pH a b c d * 1000000 := by unfold pH mx4; omega
  have v1 := Int.mul_le_mul_of_nonneg_right t1 (show 0 ≤ K * L by omega)
  have v2 := Int.mul_le_mul_of_nonneg_right t2 (show 0 ≤ K * L by omega)
  have w1 : pL a b c d * (1000000 * (K * L)) = pL a b c d * 1000000 * (K * L) := by grind
  have w2 : pH a b c d * (1000000 * (K * L)) = pH a b c d * 1000000 * (K * L) := by grind
  omega
theorem prod_bd {x y A B : Int} (hA : 0 ≤ A) (hB : 0 ≤ B) (h1 : -A ≤ x) (h2 : x ≤ A) (k1 : -B ≤ y) (k2 : y ≤ B) : -(A * B) ≤ x * y ∧ x * y ≤ A * B := by
  have h := Nat.mul_le_mul (show x.natAbs ≤ A.toNat by omega) (show y.natAbs ≤ B.toNat by omega)
  rw [← Int.natAbs_mul] at h
  have e : ((A.toNat * B.toNat : Nat) : Int) = A * B := by rw [Int.natCast_mul, Int.toNat_of_nonneg hA, Int.toNat_of_nonneg hB]
  omega
theorem meet_num {A B c1 s1 c2 s2 D U1 V1 U2 V2 W1 W2 : Int} (a1 : -1000000000000000000 ≤ A) (a2 : A ≤ 1000000000000000000) (b1 : -1000000000000000000 ≤ B) (b2 : B ≤ 1000000000000000000)
    (hn : near 432000000000000000000000 (1000000000000000000 * D) (c1 * c2 + s1 * s2))
    (p1 : U1 * 1000000000000000000000000000000000000000000000000000000000000000000 ≤ A * c1 * (B * c2)) (p2 : A * c1 * (B * c2) ≤ V1 * 1000000000000000000000000000000000000000000000000000000000000000000)
    (q1 : U2 * 1000000000000000000000000000000000000000000000000000000000000000000 ≤ A * s1 * (B * s2)) (q2 : A * s1 * (B * s2) ≤ V2 * 1000000000000000000000000000000000000000000000000000000000000000000)
    (r1 : W1 * 1000000000000000000000000000000000000000000000000 ≤ A * B * D) (r2 : A * B * D ≤ W2 * 1000000000000000000000000000000000000000000000000) :
    U1 + U2 ≤ W2 ∧ W1 ≤ V1 + V2 := by
  obtain ⟨e, he⟩ : ∃ e, e = 1000000000000000000 * D - (c1 * c2 + s1 * s2) := ⟨_, rfl⟩
  have e1 : -432000000000000000000000 ≤ e ∧ e ≤ 432000000000000000000000 := by unfold near at hn; omega
  have ab := prod_bd (x := A) (y := B) (A := 1000000000000000000) (B := 1000000000000000000) (by omega) (by omega) (by omega) a2 (by omega) b2
  have abe := prod_bd (x := A * B) (y := e) (A := 1000000000000000000 * 1000000000000000000) (B := 432000000000000000000000) (by omega) (by omega) ab.1 ab.2 (by omega) e1.2
  have key : A * B * e = 1000000000000000000 * (A * B * D) - (A * c1 * (B * c2) + A * s1 * (B * s2)) := by rw [he]; grind
  rw [key] at abe
  generalize A * B * D = x at *
  generalize A * c1 * (B * c2) = y at *
  generalize A * s1 * (B * s2) = z at *
  omega
/-- The dot product of two directions, and how far the sources are apart. -/
theorem apart_common (da db la lb r : Int) (hr : la - lb = r) : ∃ L1 H1 L2 H2 : Int,
    suR [(dxL da la, dxH da la, dxL db lb, dxH db lb), (dyL da la, dyH da la, dyL db lb, dyH db lb), (sL da, sH da, sL db, sH db)] 0 0 = (L1, H1, 0) ∧
    suR [(sL da, sH da, sL db, sH db), (acL2 da db, acH2 da db, cL r, cH r)] 0 0 = (L2, H2, 0) ∧ L1 ≤ H2 ∧ L2 ≤ H1 := by
  subst hr
  obtain ⟨_, _, ua1, ua2⟩ := d_unit da la
  obtain ⟨_, _, ub1, ub2⟩ := d_unit db lb
  have ua3 := (c_unit da).2
  have ub3 := (c_unit db).2
  have va := (c_unit da).1
  have vb := (c_unit db).1
  have vr := (c_unit (la - lb)).1
  have vab := mul_unit va vb
  have uab : unitS (acL2 da db) (acH2 da db) := vab.2.1
  have m1 := mul_unit ua1 ub1
  have m2 := mul_unit ua2 ub2
  have m3 := mul_unit ua3 ub3
  have m4 := mul_unit uab vr
  refine ⟨_, _, _, _, su_three m1.1 m2.1 m3.1 m1.2.1 m2.2.1 m3.2.1, su_two m3.1 m4.1 m3.2.1 m4.2.1, ?_⟩
  have A := fC_in da
  have B := fC_in db
  have X1 := mul_scale (K := 1000000000000) (by omega) 1000000000000 (by omega) va (c_unit la).1 A.1 A.2.1 (fC_in la).1 (fC_in la).2.1
  have Y1 := mul_scale (K := 1000000000000) (by omega) 1000000000000 (by omega) va (c_unit la).2 A.1 A.2.1 (fS_in la).1 (fS_in la).2.1
  have X2 := mul_scale (K := 1000000000000) (by omega) 1000000000000 (by omega) vb (c_unit lb).1 B.1 B.2.1 (fC_in lb).1 (fC_in lb).2.1
  have Y2 := mul_scale (K := 1000000000000) (by omega) 1000000000000 (by omega) vb (c_unit lb).2 B.1 B.2.1 (fS_in lb).1 (fS_in lb).2.1
  have AB := mul_scale (K := 1000000000000) (by omega) 1000000000000 (by omega) va vb A.1 A.2.1 B.1 B.2.1
  have XX := mul_scale (K := 1000000 * (1000000000000 * 1000000000000)) (by omega) (1000000 * (1000000000000 * 1000000000000)) (by omega) ua1 ub1 X1.1 X1.2 X2.1 X2.2
  have YY := mul_scale (K := 1000000 * (1000000000000 * 1000000000000)) (by omega) (1000000 * (1000000000000 * 1000000000000)) (by omega) ua2 ub2 Y1.1 Y1.2 Y2.1 Y2.2
  have CC := mul_scale (K := 1000000 * (1000000000000 * 1000000000000)) (by omega) 1000000000000 (by omega) uab vr AB.1 AB.2 (fC_in (la - lb)).1 (fC_in (la - lb)).2.1
  have fin := meet_num A.2.2.1 A.2.2.2 B.2.2.1 B.2.2.2 (fC_sub la lb) XX.1 XX.2 YY.1 YY.2 CC.1 CC.2
  have z := m3.2.1.1
  clear X1 X2 Y1 Y2 AB XX YY CC A B m1 m2 m4
  omega
theorem ac_sym (d e : Int) : acL2 d e = acL2 e d ∧ acH2 d e = acH2 e d := by
  obtain ⟨h1, h2, _⟩ := sm_comm (cL d) (cH d) (cL e) (cH e)
  exact ⟨h1, h2⟩
theorem suR_sym (a b c d e f g h : Int) : suR [(a, b, c, d), (e, f, g, h)] 0 0 = suR [(c, d, a, b), (e, f, g, h)] 0 0 := by
  obtain ⟨h1, h2, h3⟩ := sm_comm a b c d
  unfold suR
  rw [h1, h2, h3]
/-- The order of both sources. -/
theorem apart_sym (da db ra rb : Int) : suR [(sL db, sH db, sL da, sH da), (acL2 db da, acH2 db da, cL (rb - ra), cH (rb - ra))] 0 0 = suR [(sL da, sH da, sL db, sH db), (acL2 da db, acH2 da db, cL (ra - rb), cH (ra - rb))] 0 0 := by
  have e := c_even (ra - rb)
  rw [show -(ra - rb) = rb - ra by omega] at e
  rw [suR_sym, (ac_sym da db).1, (ac_sym da db).2, e.1, e.2]
/-- Both turned by the same. -/
theorem apart_turn (ra rb by' : Int) (h1 : 0 ≤ ra) (h2 : ra < 720) (h3 : 0 ≤ rb) (h4 : rb < 720) (h5 : 0 ≤ by') (h6 : by' < 720) :
    cL ((ra + by').tmod 720 - (rb + by').tmod 720) = cL (ra - rb) ∧ cH ((ra + by').tmod 720 - (rb + by').tmod 720) = cH (ra - rb) ∧ 0 ≤ (ra + by').tmod 720 ∧ (ra + by').tmod 720 < 720 ∧ 0 ≤ (rb + by').tmod 720 ∧ (rb + by').tmod 720 < 720 := by
  rw [Int.tmod_eq_emod_of_nonneg (show 0 ≤ ra + by' by omega), Int.tmod_eq_emod_of_nonneg (show 0 ≤ rb + by' by omega)]
  have e : (ra + by') % 720 - (rb + by') % 720 = (ra - rb) + 720 * ((rb + by') / 720 - (ra + by') / 720) := by omega
  have c := c_per (ra - rb) ((rb + by') / 720 - (ra + by') / 720)
  rw [e]
  exact ⟨c.1, c.2, by omega, by omega, by omega, by omega⟩
end Go.Proofs.Ytmjbeplcabomdaa
