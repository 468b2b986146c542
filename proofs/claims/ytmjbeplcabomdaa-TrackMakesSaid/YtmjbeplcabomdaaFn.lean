/-
  Plain numbers: fractions in lowest terms; what the two ways to add and to multiply come to.
-/
import Derived.Test.YtmjbeplcabomdaaFm
namespace Go.Proofs.Ytmjbeplcabomdaa
set_option linter.unusedVariables false

/-- The two numbers of a quotient in lowest terms. -/
def rN (N D : Int) : Int := N / gcdI N D
def rD (N D : Int) : Int := D / gcdI N D
def mkN (N D : Int) : Int := if absI (rN N D) ≤ 1000000000000000000 ∧ rD N D ≤ 1000000000000000000 then rN N D else 0
def mkD (N D : Int) : Int := if absI (rN N D) ≤ 1000000000000000000 ∧ rD N D ≤ 1000000000000000000 then rD N D else 0
def mkE (N D : Int) : Int := if absI (rN N D) ≤ 1000000000000000000 ∧ rD N D ≤ 1000000000000000000 then 0 else 16

theorem bd_mk (s : Bool) (m k N D : Int) (h1 : sv s m = rN N D) (h2 : absI (rN N D) = m) (h3 : k = rD N D) : bdN s m k = mkN N D ∧ bdD false m k = mkD N D ∧ bdE m k = mkE N D := by
  subst h3
  unfold bdN bdD bdE mkN mkD mkE
  rw [h1, h2]
  exact ⟨rfl, rfl, rfl⟩

theorem gcd_scale (N D k : Int) (hk : 0 ≤ k) : gcdI (N * k) (D * k) = gcdI N D * k := by
  unfold gcdI
  rw [Int.natAbs_mul, Int.natAbs_mul, Nat.gcd_mul_right, Int.natCast_mul]
  congr 1
  omega
/-- A quotient whose numbers have just the common divisor k. -/
theorem red (N D n d k : Int) (hk : 0 < k) (hN : N = n * k) (hD : D = d * k) (h : gcdI n d = 1) : rN N D = n ∧ rD N D = d := by
  have e : gcdI N D = k := by rw [hN, hD, gcd_scale _ _ _ (by omega), h]; omega
  unfold rN rD
  rw [e, hN, hD, Int.mul_ediv_cancel _ (by omega), Int.mul_ediv_cancel _ (by omega)]
  exact ⟨rfl, rfl⟩

theorem cop (a b : Int) : gcdI a b = 1 ↔ Nat.Coprime a.natAbs b.natAbs := by
  unfold gcdI Nat.Coprime
  omega
theorem gcdI_mod (m g : Int) (hg : 0 < g) (hm : 0 ≤ m) : gcdI (m % g) g = gcdI m g := by
  unfold gcdI
  rw [Int.natAbs_emod_of_nonneg hm, ← Nat.gcd_rec, Nat.gcd_comm]
theorem gcdI_neg (m g : Int) : gcdI (-m) g = gcdI m g := by unfold gcdI; rw [Int.natAbs_neg]
theorem div_gcd_cop (a b : Int) (hb : 0 < b) : gcdI (a / gcdI a b) (b / gcdI a b) = 1 := by
  have h0 := gcdI_pos a b hb
  obtain ⟨p, hp⟩ := gcdI_dvd_left a b
  obtain ⟨q, hq⟩ := gcdI_dvd_right a b
  have e1 : a / gcdI a b = p := by conv => lhs; arg 1; rw [hp]
                                   exact Int.mul_ediv_cancel_left _ (by omega)
  have e2 : b / gcdI a b = q := by conv => lhs; arg 1; rw [hq]
                                   exact Int.mul_ediv_cancel_left _ (by omega)
  rw [e1, e2]
  have h := gcd_scale p q (gcdI a b) (by omega)
  rw [Int.mul_comm p, ← hp, Int.mul_comm q, ← hq] at h
  have : gcdI p q * gcdI a b = 1 * gcdI a b := by omega
  exact Int.eq_of_mul_eq_mul_right (by omega) this

/-- What a sum has in common with the product of the denominators. -/
theorem sum_gcd (n1 d1 n2 d2 le ri g S : Int) (hg : 0 < g) (h1 : d1 = le * g) (h2 : d2 = ri * g) (hlr : gcdI le ri = 1) (c1 : gcdI n1 d1 = 1) (c2 : gcdI n2 d2 = 1)
    (hS : S = n1 * ri + n2 * le) : gcdI S (le * d2) = gcdI S g := by
  have key (n ri le d m : Int) (hle : le ∣ d) (c : gcdI n d = 1) (hlr : gcdI le ri = 1) (hS : S = n * ri + m * le) : Nat.Coprime S.natAbs le.natAbs := by
    unfold Nat.Coprime
    have k1 : ((Nat.gcd S.natAbs le.natAbs : Nat) : Int) ∣ S := Int.gcd_dvd_left ..
    have k2 : ((Nat.gcd S.natAbs le.natAbs : Nat) : Int) ∣ le := Int.gcd_dvd_right ..
    generalize Nat.gcd S.natAbs le.natAbs = k at *
    have k3 : (k : Int) ∣ n * ri := by
      have : n * ri = S - m * le := by omega
      rw [this]
      exact Int.dvd_sub k1 (Int.dvd_trans k2 (Int.dvd_mul_left ..))
    have k3' : k ∣ n.natAbs * ri.natAbs := by rw [← Int.natAbs_mul]; exact Int.ofNat_dvd_left.1 k3
    have k2' : k ∣ le.natAbs := Int.ofNat_dvd_left.1 k2
    have ck : Nat.Coprime k ri.natAbs := Nat.Coprime.coprime_dvd_left k2' ((cop le ri).1 hlr)
    have k4 : k ∣ n.natAbs := ck.dvd_of_dvd_mul_right k3'
    have k5 : k ∣ d.natAbs := Nat.dvd_trans k2' (Int.natAbs_dvd_natAbs.2 hle)
    have k6 : k ∣ 1 := by
      have := Nat.dvd_gcd k4 k5
      have c' := (cop n d).1 c
      unfold Nat.Coprime at c'
      rwa [c'] at this
    exact Nat.dvd_one.1 k6
  have q1 := key n1 ri le d1 n2 ⟨g, h1⟩ c1 hlr hS
  have q2 := key n2 le ri d2 n1 ⟨g, h2⟩ c2 (by rw [gcdI_comm]; exact hlr) (by rw [hS]; omega)
  have e : (le * d2).natAbs = (le.natAbs * ri.natAbs) * g.natAbs := by rw [h2, Int.natAbs_mul, Int.natAbs_mul, Nat.mul_assoc]
  unfold gcdI
  rw [e, Nat.Coprime.gcd_mul_left_cancel_right g.natAbs (Nat.Coprime.mul_left q1.symm q2.symm)]

theorem dvd_div (a g : Int) (hg : 0 < g) (h : g ∣ a) : a = a / g * g := (Int.ediv_mul_cancel h).symm
theorem div_bd (a g A : Int) (hg : 0 < g) (h0 : 0 ≤ a) (h1 : a ≤ A) : 0 ≤ a / g ∧ a / g ≤ A := by
  have := Int.ediv_le_self g h0
  have := Int.ediv_nonneg h0 (show 0 ≤ g by omega)
  omega
theorem tdiv_dvd (a g : Int) (h : g ∣ a) : a.tdiv g = a / g := Int.tdiv_eq_ediv_of_dvd h
theorem sg_mul (x y : Int) : sv (sgB x y) (absI x * absI y) = x * y := by
  unfold sv sgB absI
  by_cases hx : x < 0 <;> by_cases hy : y < 0 <;> simp [hx, hy]
  · rw [← Int.natCast_mul, ← Int.natAbs_mul]; have := Int.mul_pos_of_neg_of_neg hx hy; omega
  · have h := Int.mul_nonpos_of_nonpos_of_nonneg (show x ≤ 0 by omega) (show 0 ≤ y by omega)
    rw [← Int.natCast_mul, ← Int.natAbs_mul]; omega
  · have h := Int.mul_nonpos_of_nonneg_of_nonpos (show 0 ≤ x by omega) (show y ≤ 0 by omega)
    rw [← Int.natCast_mul, ← Int.natAbs_mul]; omega
  · have h := Int.mul_nonneg (show 0 ≤ x by omega) (show 0 ≤ y by omega)
    rw [← Int.natCast_mul, ← Int.natAbs_mul]; omega
theorem sv_pl2 (n n2 : Bool) (m m2 : Int) : sv (plN n m n2 m2) (plM n m n2 m2) = sv n m + sv n2 m2 := by
  unfold plN plM sv
  cases n <;> cases n2 <;> simp <;> (try split) <;> (try simp) <;> omega
theorem plM_nn (n n2 : Bool) (m m2 : Int) (h0 : 0 ≤ m) (i0 : 0 ≤ m2) : 0 ≤ plM n m n2 m2 := by
  unfold plM; split
  · omega
  · split <;> omega
theorem abs_sv (s : Bool) (m : Int) (h : 0 ≤ m) : absI (sv s m) = m := by unfold absI sv; cases s <;> simp <;> omega
theorem sv_div (s : Bool) (m h : Int) (hd : h ∣ m) : sv s (m / h) = sv s m / h := by
  unfold sv
  cases s
  · rfl
  · simp only [if_true]
    exact (Int.neg_ediv_of_dvd hd).symm
theorem dvd_gcd_le (a b : Int) (hb : 0 < b) : gcdI a b ≤ b := gcdI_le a b hb

/-- What the sum of two fractions comes to, as both programs reckon it. -/
theorem sum_mk (n1 d1 n2 d2 g le ri S m h : Int) (s : Bool) (a3 : 1 ≤ d1) (c3 : 1 ≤ d2) (cc1 : gcdI n1 d1 = 1) (cc2 : gcdI n2 d2 = 1)
    (eg : g = gcdI d1 d2) (el : le = d1 / g) (er : ri = d2 / g) (hS : S = n1 * ri + n2 * le) (hm : 0 ≤ m) (hs : sv s m = S) (eh : h = gcdI (m % g) g) :
    0 < g ∧ g ≤ d1 ∧ g ≤ d2 ∧ g ∣ d1 ∧ g ∣ d2 ∧ 0 < h ∧ h ≤ g ∧ h ∣ m ∧ h ∣ d2 ∧ h ∣ d1 ∧
    bdN s (m / h) (le * (d2 / h)) = mkN (n1 * d2 + n2 * d1) (d1 * d2) ∧ bdD false (m / h) (le * (d2 / h)) = mkD (n1 * d2 + n2 * d1) (d1 * d2) ∧ bdE (m / h) (le * (d2 / h)) = mkE (n1 * d2 + n2 * d1) (d1 * d2) := by
  have g0 : 0 < g := by rw [eg]; exact gcdI_pos _ _ (by omega)
  have gd2 : g ∣ d2 := by rw [eg]; exact gcdI_dvd_right ..
  have gd1 : g ∣ d1 := by rw [eg]; exact gcdI_dvd_left ..
  have gl2 : g ≤ d2 := Int.le_of_dvd (by omega) gd2
  have gl1 : g ≤ d1 := Int.le_of_dvd (by omega) gd1
  have h0 : 0 < h := by rw [eh]; exact gcdI_pos _ _ g0
  have hg : h ∣ g := by rw [eh]; exact gcdI_dvd_right ..
  have hle : h ≤ g := Int.le_of_dvd g0 hg
  have hmg : h ∣ m % g := by rw [eh]; exact gcdI_dvd_left ..
  have hdm : h ∣ m := by
    have e := Int.mul_ediv_add_emod m g
    rw [← e]
    exact Int.dvd_add (Int.dvd_trans hg (Int.dvd_mul_right ..)) hmg
  have hd2 : h ∣ d2 := Int.dvd_trans hg gd2
  have hd1 : h ∣ d1 := Int.dvd_trans hg gd1
  have e1 : d1 = le * g := by rw [el]; exact dvd_div _ _ g0 gd1
  have e2 : d2 = ri * g := by rw [er]; exact dvd_div _ _ g0 gd2
  have hlr : gcdI le ri = 1 := by rw [el, er, eg]; exact div_gcd_cop d1 d2 (by omega)
  have hS2 : gcdI S (le * d2) = h := by
    rw [sum_gcd n1 d1 n2 d2 le ri g S g0 e1 e2 hlr cc1 cc2 hS, eh, gcdI_mod m g g0 hm, ← hs]
    unfold sv
    cases s
    · rfl
    · simp only [if_true]; exact gcdI_neg m g
  have eN : n1 * d2 + n2 * d1 = S * g := by rw [hS, e1, e2]; grind
  have eD : d1 * d2 = le * d2 * g := by rw [e1]; grind
  have le0 : 0 < le := by
    rw [el]
    exact Int.ediv_pos_of_pos_of_dvd (by omega) (by omega) gd1
  have r : rN (n1 * d2 + n2 * d1) (d1 * d2) = S / h ∧ rD (n1 * d2 + n2 * d1) (d1 * d2) = le * (d2 / h) := by
    unfold rN rD
    rw [eN, eD, gcd_scale _ _ _ (by omega), hS2]
    constructor
    · exact Int.mul_ediv_mul_of_pos_left _ _ g0
    · rw [Int.mul_ediv_mul_of_pos_left _ _ g0, Int.mul_ediv_assoc _ hd2]
  have b := bd_mk s (m / h) (le * (d2 / h)) (n1 * d2 + n2 * d1) (d1 * d2) (by rw [r.1, sv_div s m h hdm, hs]) (by rw [r.1, ← hs, ← sv_div s m h hdm]; exact abs_sv _ _ (Int.ediv_nonneg hm (by omega))) r.2.symm
  exact ⟨g0, gl1, gl2, gd1, gd2, h0, hle, hdm, hd2, hd1, b.1, b.2.1, b.2.2⟩

/-- What the product of two fractions comes to, as both programs reckon it. -/
theorem prod_mk (n1 d1 n2 d2 g h : Int) (a3 : 1 ≤ d1) (c3 : 1 ≤ d2) (cc1 : gcdI n1 d1 = 1) (cc2 : gcdI n2 d2 = 1)
    (eg : g = gcdI n1 d2) (eh : h = gcdI n2 d1) :
    0 < g ∧ g ≤ d2 ∧ 0 < h ∧ h ≤ d1 ∧ g ∣ n1 ∧ g ∣ d2 ∧ h ∣ n2 ∧ h ∣ d1 ∧ rN (n1 * n2) (d1 * d2) = n1 / g * (n2 / h) ∧ rD (n1 * n2) (d1 * d2) = d1 / h * (d2 / g) := by
  have g0 : 0 < g := by rw [eg]; exact gcdI_pos _ _ (by omega)
  have h0 : 0 < h := by rw [eh]; exact gcdI_pos _ _ (by omega)
  have gn : g ∣ n1 := by rw [eg]; exact gcdI_dvd_left ..
  have gd : g ∣ d2 := by rw [eg]; exact gcdI_dvd_right ..
  have hn : h ∣ n2 := by rw [eh]; exact gcdI_dvd_left ..
  have hd : h ∣ d1 := by rw [eh]; exact gcdI_dvd_right ..
  refine ⟨g0, Int.le_of_dvd (by omega) gd, h0, Int.le_of_dvd (by omega) hd, gn, gd, hn, hd, ?_⟩
  have p1 := div_gcd_cop n1 d2 (by omega)
  rw [← eg] at p1
  have p2 := div_gcd_cop n2 d1 (by omega)
  rw [← eh] at p2
  obtain ⟨a, ha⟩ := gn
  obtain ⟨b, hb⟩ := gd
  obtain ⟨c, hc⟩ := hn
  obtain ⟨e, he⟩ := hd
  have qa : n1 / g = a := by rw [ha]; exact Int.mul_ediv_cancel_left _ (by omega)
  have qb : d2 / g = b := by rw [hb]; exact Int.mul_ediv_cancel_left _ (by omega)
  have qc : n2 / h = c := by rw [hc]; exact Int.mul_ediv_cancel_left _ (by omega)
  have qe : d1 / h = e := by rw [he]; exact Int.mul_ediv_cancel_left _ (by omega)
  rw [qa, qb] at p1
  rw [qc, qe] at p2
  rw [qa, qb, qc, qe]
  have p3 : gcdI a e = 1 := by
    rw [cop] at *
    exact Nat.Coprime.coprime_dvd_left (Int.natAbs_dvd_natAbs.2 ⟨g, by rw [ha, Int.mul_comm]⟩) (Nat.Coprime.coprime_dvd_right (Int.natAbs_dvd_natAbs.2 ⟨h, by rw [he, Int.mul_comm]⟩) cc1)
  have p4 : gcdI c b = 1 := by
    rw [cop] at *
    exact Nat.Coprime.coprime_dvd_left (Int.natAbs_dvd_natAbs.2 ⟨h, by rw [hc, Int.mul_comm]⟩) (Nat.Coprime.coprime_dvd_right (Int.natAbs_dvd_natAbs.2 ⟨g, by rw [hb, Int.mul_comm]⟩) cc2)
  have p5 : gcdI (a * c) (e * b) = 1 := by
    rw [cop] at *
    rw [Int.natAbs_mul, Int.natAbs_mul]
    exact Nat.Coprime.mul_left (Nat.Coprime.mul_right p3 p1) (Nat.Coprime.mul_right p2 p4)
  exact red (n1 * n2) (d1 * d2) (a * c) (e * b) (g * h) (Int.mul_pos g0 h0) (by rw [ha, hc]; grind) (by rw [he, hb]; grind) p5
theorem div_abs (a g A : Int) (hg : 0 < g) (h0 : -A ≤ a) (h1 : a ≤ A) : -A ≤ a / g ∧ a / g ≤ A := by
  by_cases h : 0 ≤ a
  · have := div_bd a g A hg h h1
    omega
  · have h2 := ediv_ge_self a g (by omega) (by omega)
    have h3 : a / g < 0 := Int.ediv_neg_of_neg_of_pos (by omega) hg
    omega
theorem okF_out {n d : Int} (h : okF n d = true) : 1 ≤ d ∧ d ≤ 1000000000000000000 ∧ -1000000000000000000 ≤ n ∧ n ≤ 1000000000000000000 ∧ gcdI n d = 1 := by
  unfold okF at h; simpa using h
theorem okF_in {n d : Int} (h : 1 ≤ d ∧ d ≤ 1000000000000000000 ∧ -1000000000000000000 ≤ n ∧ n ≤ 1000000000000000000 ∧ gcdI n d = 1) : okF n d = true := by
  unfold okF; simpa using h
theorem okF_neg1 (n d : Int) : okF (-n) d = okF n d := by unfold okF; rw [gcdI_neg, decide_eq_decide]; omega
theorem okF_neg {n1 d1 n2 d2 : Int} (h : okF n1 d1 = true ∧ okF n2 d2 = true) : okF n1 d1 = true ∧ okF (-n2) d2 = true := by rw [okF_neg1]; exact h
theorem okF_unneg {n1 d1 n2 d2 : Int} (h : okF n1 d1 = true ∧ okF (-n2) d2 = true) : okF n1 d1 = true ∧ okF n2 d2 = true := by rw [okF_neg1] at h; exact h
/-- Two fractions in lowest terms are equal only if their numbers are. -/
theorem frac_eq (n1 d1 n2 d2 : Int) (h1 : 1 ≤ d1) (h2 : 1 ≤ d2) (c1 : gcdI n1 d1 = 1) (c2 : gcdI n2 d2 = 1) : n1 * d2 = n2 * d1 ↔ (n1 = n2 ∧ d1 = d2) := by
  constructor
  · intro h
    have e1 : d1.natAbs ∣ d2.natAbs := by
      have : d1 ∣ n1 * d2 := ⟨n2, by rw [h, Int.mul_comm]⟩
      have k := Int.natAbs_dvd_natAbs.2 this
      rw [Int.natAbs_mul] at k
      exact Nat.Coprime.dvd_of_dvd_mul_left ((cop n1 d1).1 c1).symm k
    have e2 : d2.natAbs ∣ d1.natAbs := by
      have : d2 ∣ n2 * d1 := ⟨n1, by rw [← h, Int.mul_comm]⟩
      have k := Int.natAbs_dvd_natAbs.2 this
      rw [Int.natAbs_mul] at k
      exact Nat.Coprime.dvd_of_dvd_mul_left ((cop n2 d2).1 c2).symm k
    have e := Nat.dvd_antisymm e1 e2
    have ed : d1 = d2 := by omega
    subst ed
    exact ⟨Int.eq_of_mul_eq_mul_right (by omega) h, rfl⟩
  · rintro ⟨rfl, rfl⟩; rfl
/-- What Add, Sub, Mul, Div, Cmp and Floor answer. -/
def adN (n1 d1 n2 d2 : Int) : Int := if okF n1 d1 = true ∧ okF n2 d2 = true then mkN (n1 * d2 + n2 * d1) (d1 * d2) else 0
def adD (n1 d1 n2 d2 : Int) : Int := if okF n1 d1 = true ∧ okF n2 d2 = true then mkD (n1 * d2 + n2 * d1) (d1 * d2) else 0
def adE (n1 d1 n2 d2 : Int) : Int := if okF n1 d1 = true ∧ okF n2 d2 = true then mkE (n1 * d2 + n2 * d1) (d1 * d2) else 8
def muN (n1 d1 n2 d2 : Int) : Int := if okF n1 d1 = true ∧ okF n2 d2 = true then mkN (n1 * n2) (d1 * d2) else 0
def muD (n1 d1 n2 d2 : Int) : Int := if okF n1 d1 = true ∧ okF n2 d2 = true then mkD (n1 * n2) (d1 * d2) else 0
def muE (n1 d1 n2 d2 : Int) : Int := if okF n1 d1 = true ∧ okF n2 d2 = true then mkE (n1 * n2) (d1 * d2) else 8
def coV (n1 d1 n2 d2 : Int) : Int := if okF n1 d1 = true ∧ okF n2 d2 = true then cmpI (n1 * d2) (n2 * d1) else 0
def flV (n d : Int) : Int := if okF n d = true then n / d else 0
theorem absI_of (x : Int) (h : 0 ≤ x) : absI x = x := by unfold absI; omega
theorem sgB_of (x y : Int) (h : 0 ≤ x) (k : 0 ≤ y) : sgB x y = false := by unfold sgB; simp; omega
end Go.Proofs.Ytmjbeplcabomdaa
