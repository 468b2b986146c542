/-
  Plain numbers: sums and products do not depend on the order; inverse operations.
-/
import Derived.Test.YtdolfdmgdknboaaFnp
import Derived.Test.YtdolfdmgdknboaaFg
namespace Go.Proofs.Ytdolfdmgdknboaa
set_option linter.unusedVariables false

theorem ad_comm (n1 d1 n2 d2 : Int) : adN n1 d1 n2 d2 = adN n2 d2 n1 d1 ∧ adD n1 d1 n2 d2 = adD n2 d2 n1 d1 ∧ adE n1 d1 n2 d2 = adE n2 d2 n1 d1 := by
  unfold adN adD adE
  rw [Int.add_comm (n1 * d2), Int.mul_comm d1 d2]
  by_cases h : okF n1 d1 = true ∧ okF n2 d2 = true
  · rw [if_pos h, if_pos h.symm, if_pos h, if_pos h.symm, if_pos h, if_pos h.symm]; exact ⟨rfl, rfl, rfl⟩
  · have k : ¬ (okF n2 d2 = true ∧ okF n1 d1 = true) := fun k => h k.symm
    rw [if_neg h, if_neg k, if_neg h, if_neg k, if_neg h, if_neg k]; exact ⟨rfl, rfl, rfl⟩
theorem mu_comm (n1 d1 n2 d2 : Int) : muN n1 d1 n2 d2 = muN n2 d2 n1 d1 ∧ muD n1 d1 n2 d2 = muD n2 d2 n1 d1 ∧ muE n1 d1 n2 d2 = muE n2 d2 n1 d1 := by
  unfold muN muD muE
  rw [Int.mul_comm n1 n2, Int.mul_comm d1 d2]
  by_cases h : okF n1 d1 = true ∧ okF n2 d2 = true
  · rw [if_pos h, if_pos h.symm, if_pos h, if_pos h.symm, if_pos h, if_pos h.symm]; exact ⟨rfl, rfl, rfl⟩
  · have k : ¬ (okF n2 d2 = true ∧ okF n1 d1 = true) := fun k => h k.symm
    rw [if_neg h, if_neg k, if_neg h, if_neg k, if_neg h, if_neg k]; exact ⟨rfl, rfl, rfl⟩
/-- A quotient that is a fraction in lowest terms. -/
theorem red_eq (P Q n d : Int) (hQ : 0 < Q) (hd : 1 ≤ d) (c : gcdI n d = 1) (h : P * d = n * Q) : rN P Q = n ∧ rD P Q = d := by
  have dv : d.natAbs ∣ Q.natAbs := by
    have : d ∣ n * Q := ⟨P, by rw [← h, Int.mul_comm]⟩
    have k := Int.natAbs_dvd_natAbs.2 this
    rw [Int.natAbs_mul] at k
    exact Nat.Coprime.dvd_of_dvd_mul_left ((cop n d).1 c).symm k
  obtain ⟨k, hk⟩ := Int.natAbs_dvd_natAbs.1 dv
  have k0 : 0 < k := by
    rcases Int.lt_or_le 0 k with q | q
    · exact q
    · have := Int.mul_nonpos_of_nonneg_of_nonpos (show 0 ≤ d by omega) q; omega
  have hP : P = n * k := by
    have e : P * d = (n * k) * d := by rw [h, hk]; grind
    exact Int.eq_of_mul_eq_mul_right (by omega) e
  exact red P Q n d k k0 hP (by rw [hk, Int.mul_comm]) c
theorem mk_eq (P Q n d : Int) (hQ : 0 < Q) (ho : okF n d = true) (h : P * d = n * Q) : mkN P Q = n ∧ mkD P Q = d ∧ mkE P Q = 0 := by
  obtain ⟨o1, o2, o3, o4, o5⟩ := okF_out ho
  obtain ⟨r1, r2⟩ := red_eq P Q n d hQ o1 o5 h
  have hc : absI (rN P Q) ≤ 1000000000000000000 ∧ rD P Q ≤ 1000000000000000000 := by rw [r1, r2]; exact ⟨absI_le n o3 o4, o2⟩
  unfold mkN mkD mkE
  rw [if_pos hc, if_pos hc, if_pos hc]
  exact ⟨r1, r2, rfl⟩
/-- What a quotient in range comes to. -/
theorem mk_of (N D : Int) (hD : 0 < D) (h : mkE N D = 0) : okF (mkN N D) (mkD N D) = true ∧ mkN N D * D = N * mkD N D := by
  have hc : absI (rN N D) ≤ 1000000000000000000 ∧ rD N D ≤ 1000000000000000000 := by
    unfold mkE at h
    split at h
    · assumption
    · omega
  have e1 : mkN N D = rN N D := by unfold mkN; rw [if_pos hc]
  have e2 : mkD N D = rD N D := by unfold mkD; rw [if_pos hc]
  rw [e1, e2]
  have g0 := gcdI_pos N D hD
  have d1 := dvd_div N _ g0 (gcdI_dvd_left N D)
  have d2 := dvd_div D _ g0 (gcdI_dvd_right N D)
  have c := div_gcd_cop N D hD
  have p : 1 ≤ rD N D := by
    have := Int.ediv_pos_of_pos_of_dvd hD (by omega) (gcdI_dvd_right N D)
    unfold rD; omega
  refine ⟨okF_in ⟨p, hc.2, ?_, ?_, c⟩, ?_⟩
  · have := hc.1; unfold absI at this; omega
  · have := hc.1; unfold absI at this; omega
  · unfold rN rD
    generalize gcdI N D = g at *
    generalize N / g = x at *
    generalize D / g = y at *
    rw [d1, d2]; grind
/-- A difference added. -/
theorem sub_add (n1 d1 n2 d2 : Int) (o1 : okF n1 d1 = true) (o2 : okF n2 d2 = true) (h : adE n1 d1 (-n2) d2 = 0) :
    adN (adN n1 d1 (-n2) d2) (adD n1 d1 (-n2) d2) n2 d2 = n1 ∧ adD (adN n1 d1 (-n2) d2) (adD n1 d1 (-n2) d2) n2 d2 = d1 ∧ adE (adN n1 d1 (-n2) d2) (adD n1 d1 (-n2) d2) n2 d2 = 0 := by
  have o3 : okF (-n2) d2 = true := by rw [okF_neg1]; exact o2
  obtain ⟨a1, a2, a3, a4, a5⟩ := okF_out o1
  obtain ⟨b1, b2, b3, b4, b5⟩ := okF_out o2
  rw [adE, if_pos ⟨o1, o3⟩] at h
  rw [show adN n1 d1 (-n2) d2 = mkN (n1 * d2 + -n2 * d1) (d1 * d2) by rw [adN, if_pos ⟨o1, o3⟩], show adD n1 d1 (-n2) d2 = mkD (n1 * d2 + -n2 * d1) (d1 * d2) by rw [adD, if_pos ⟨o1, o3⟩]]
  have hD : 0 < d1 * d2 := Int.mul_pos (by omega) (by omega)
  obtain ⟨k1, k2⟩ := mk_of _ _ hD h
  generalize mkN (n1 * d2 + -n2 * d1) (d1 * d2) = x at *
  generalize mkD (n1 * d2 + -n2 * d1) (d1 * d2) = y at *
  obtain ⟨y1, y2, y3, y4, y5⟩ := okF_out k1
  rw [adN, adD, adE, if_pos ⟨k1, o2⟩, if_pos ⟨k1, o2⟩, if_pos ⟨k1, o2⟩]
  refine mk_eq _ _ _ _ (Int.mul_pos (by omega) (by omega)) o1 ?_
  have e : ((x * d2 + n2 * y) * d1) * d2 = (n1 * (y * d2)) * d2 := by
    have : x * (d1 * d2) = (n1 * d2 + -n2 * d1) * y := k2
    grind
  exact Int.eq_of_mul_eq_mul_right (by omega) e
/-- A quotient multiplied. -/
theorem div_mul (n1 d1 n2 d2 : Int) (o1 : okF n1 d1 = true) (o2 : okF n2 d2 = true) (hz : ¬ n2 = 0) (h : dvE n1 d1 n2 d2 = 0) :
    muN (dvN n1 d1 n2 d2) (dvD n1 d1 n2 d2) n2 d2 = n1 ∧ muD (dvN n1 d1 n2 d2) (dvD n1 d1 n2 d2) n2 d2 = d1 ∧ muE (dvN n1 d1 n2 d2) (dvD n1 d1 n2 d2) n2 d2 = 0 := by
  obtain ⟨a1, a2, a3, a4, a5⟩ := okF_out o1
  obtain ⟨b1, b2, b3, b4, b5⟩ := okF_out o2
  rw [dvE, if_pos ⟨o1, o2⟩, if_neg hz] at h
  rw [show dvN n1 d1 n2 d2 = mkN (n1 * flN n2 d2) (d1 * absI n2) by rw [dvN, if_pos ⟨o1, o2⟩, if_neg hz], show dvD n1 d1 n2 d2 = mkD (n1 * flN n2 d2) (d1 * absI n2) by rw [dvD, if_pos ⟨o1, o2⟩, if_neg hz]]
  have p : 0 < absI n2 := by unfold absI; omega
  have hD : 0 < d1 * absI n2 := Int.mul_pos (by omega) p
  have f : flN n2 d2 * n2 = absI n2 * d2 := by
    unfold flN absI
    split
    · rw [show ((n2.natAbs : Nat) : Int) = -n2 by omega]; grind
    · rw [show ((n2.natAbs : Nat) : Int) = n2 by omega]; grind
  obtain ⟨k1, k2⟩ := mk_of _ _ hD h
  generalize mkN (n1 * flN n2 d2) (d1 * absI n2) = x at *
  generalize mkD (n1 * flN n2 d2) (d1 * absI n2) = y at *
  generalize flN n2 d2 = u at *
  generalize absI n2 = v at *
  obtain ⟨y1, y2, y3, y4, y5⟩ := okF_out k1
  rw [muN, muD, muE, if_pos ⟨k1, o2⟩, if_pos ⟨k1, o2⟩, if_pos ⟨k1, o2⟩]
  refine mk_eq _ _ _ _ (Int.mul_pos (by omega) (by omega)) o1 ?_
  have e : ((x * n2) * d1) * v = (n1 * (y * d2)) * v := by
    have h1 : ((x * n2) * d1) * v = (x * (d1 * v)) * n2 := by grind
    rw [h1, k2]
    have h2 : n1 * u * y * n2 = n1 * y * (u * n2) := by grind
    rw [h2, f]; grind
  exact Int.eq_of_mul_eq_mul_right (by omega) e
end Go.Proofs.Ytdolfdmgdknboaa
