/-
  Rotations: what they do to vectors.  Turns by small parameters: their elements; products of turns.  Where the value of a sum, a product or a quotient has a fraction, the operation returns just that fraction.
-/
import Derived.Test.YtdolfdmgdknboaaKu
import Derived.Test.YtdolfdmgdknboaaWsf
namespace Go.Proofs.Ytdolfdmgdknboaa
open Go.RowKit
set_option linter.unusedVariables false
set_option linter.unusedSimpArgs false

theorem rot_dot {a : Nat} (ha : a < 3) {c s v0 v1 v2 w0 w1 w2 p0 p1 p2 q0 q1 q2 : Rat} (h : c * c + s * s = 1)
    (h0 : p0 = rotV a c s 0 0 * v0 + rotV a c s 0 1 * v1 + rotV a c s 0 2 * v2) (h1 : p1 = rotV a c s 1 0 * v0 + rotV a c s 1 1 * v1 + rotV a c s 1 2 * v2) (h2 : p2 = rotV a c s 2 0 * v0 + rotV a c s 2 1 * v1 + rotV a c s 2 2 * v2)
    (k0 : q0 = rotV a c s 0 0 * w0 + rotV a c s 0 1 * w1 + rotV a c s 0 2 * w2) (k1 : q1 = rotV a c s 1 0 * w0 + rotV a c s 1 1 * w1 + rotV a c s 1 2 * w2) (k2 : q2 = rotV a c s 2 0 * w0 + rotV a c s 2 1 * w1 + rotV a c s 2 2 * w2) :
    v0 * w0 + v1 * w1 + v2 * w2 = p0 * q0 + p1 * q1 + p2 * q2 := by
  rcases (show a = 0 ∨ a = 1 ∨ a = 2 by omega) with rfl | rfl | rfl <;> simp [rotV] at h0 h1 h2 k0 k1 k2 <;> subst h0 h1 h2 k0 k1 k2 <;> grind
theorem rot_back {a : Nat} (ha : a < 3) {c s v0 v1 v2 p0 p1 p2 u0 u1 u2 : Rat} (h : c * c + s * s = 1)
    (h0 : p0 = rotV a c s 0 0 * v0 + rotV a c s 0 1 * v1 + rotV a c s 0 2 * v2) (h1 : p1 = rotV a c s 1 0 * v0 + rotV a c s 1 1 * v1 + rotV a c s 1 2 * v2) (h2 : p2 = rotV a c s 2 0 * v0 + rotV a c s 2 1 * v1 + rotV a c s 2 2 * v2)
    (k0 : u0 = rotV a c s 0 0 * p0 + rotV a c s 1 0 * p1 + rotV a c s 2 0 * p2) (k1 : u1 = rotV a c s 0 1 * p0 + rotV a c s 1 1 * p1 + rotV a c s 2 1 * p2) (k2 : u2 = rotV a c s 0 2 * p0 + rotV a c s 1 2 * p1 + rotV a c s 2 2 * p2) :
    u0 = v0 ∧ u1 = v1 ∧ u2 = v2 := by
  rcases (show a = 0 ∨ a = 1 ∨ a = 2 by omega) with rfl | rfl | rfl <;> simp [rotV] at h0 h1 h2 k0 k1 k2 <;> subst h0 h1 h2 k0 k1 k2 <;> refine ⟨?_, ?_, ?_⟩ <;> grind
theorem okCW_ap {M V : Nat → Int} : okCW (apR M V) := by
  by_cases h : (okM M ∧ okW V) ∧ apE M V = 0
  · obtain ⟨⟨a, b⟩, c⟩ := h
    obtain ⟨x, y, z⟩ := okW_in (q_ap a b c).1
    exact ⟨okC_of x, okC_of y, okC_of z⟩
  · have e : ∀ o, apR M V o = 0 := fun o => by
      unfold apR
      by_cases k : okM M ∧ okW V
      · rw [if_pos k]
        have : ¬ apE0 M V = 0 := fun q => h ⟨k, by unfold apE; rw [if_pos k]; exact q⟩
        unfold vz; rw [if_neg this]
      · rw [if_neg k]
    unfold okCW; rw [e, e, e, e, e, e]; exact ⟨okC_zero, okC_zero, okC_zero⟩
theorem fl_eq {M : Nat → Int} (h : okM M) : flR M = fpP M := funext (fun o => if_pos h)
theorem okCM_fl {M : Nat → Int} (h : okM M) : okM (flR M) := by rw [fl_eq h]; exact (okM_flip h).1
theorem dt_in {a b c d e f g h i j k l : Int} (o1 : okV a b c d e f = true) (o2 : okV g h i j k l = true) (z : dtE a b c d e f g h i j k l = 0) : okF (dtN a b c d e f g h i j k l) (dtD a b c d e f g h i j k l) = true ∧ qv (dtN a b c d e f g h i j k l) (dtD a b c d e f g h i j k l) = qv a b * qv g h + qv c d * qv i j + qv e f * qv k l := by
  have q : okV a b c d e f = true ∧ okV g h i j k l = true := ⟨o1, o2⟩
  rw [dtE, if_pos q] at z
  rw [dtN, dtD, if_pos q, if_pos q]
  exact q_do o1 o2 z
theorem dt_01 {a b c d e f g h i j k l : Int} (o1 : okV a b c d e f = true) (o2 : okV g h i j k l = true) : dtE a b c d e f g h i j k l = 0 ∨ dtE a b c d e f g h i j k l = 16 := by
  have q : okV a b c d e f = true ∧ okV g h i j k l = true := ⟨o1, o2⟩
  rw [dtE, if_pos q]
  exact do_01 o1 o2
end Go.Proofs.Ytdolfdmgdknboaa
namespace Go.Proofs.Ytdolfdmgdknboaa
open Go.RowKit
set_option linter.unusedVariables false
set_option linter.unusedSimpArgs false

/-- A lowest fraction that is N / D is bounded as N / D is. -/
theorem sf_low {x y N D A B : Int} (o : okF x y = true) (hD : 0 < D) (h : N * y = x * D) (h1 : -A ≤ N) (h2 : N ≤ A) (h3 : D ≤ B) (hA : A ≤ 1000000000000000000) (hB : B ≤ 1000000000000000000) : SF x y A B := by
  obtain ⟨e1, e2, _⟩ := mk_eq N D x y hD o h
  have := (sf_mk hD h1 h2 h3 hA hB).2
  rw [e1, e2] at this
  exact this
theorem q_div (a b : Int) : qv a b = (a : Rat) / (b : Rat) := Rat.divInt_eq_div a b
theorem cast_ne {b : Int} (h : b ≠ 0) : (b : Rat) ≠ 0 := fun k => h (Rat.intCast_eq_zero_iff.1 k)
/-- The cosine and the sine of a small parameter. -/
theorem turn_sf {n d : Int} (h : SF n d 20 20) : SF (c_N n d) (c_D n d) 800 800 ∧ SF (s_N n d) (s_D n d) 800 800 := by
  have hp := sf_turn (sf_up h (by omega) (by omega))
  have ⟨m, l, hh, ce, me, se⟩ : muE n d n d = 0 ∧ l_E n d = 0 ∧ h_E n d = 0 ∧ c_E n d = 0 ∧ muE n d 2 1 = 0 ∧ s_E n d = 0 := by
    unfold pr_E at hp
    by_cases q : fsI (muE n d n d) (l_E n d) (h_E n d) = 0
    · rw [if_pos q] at hp
      obtain ⟨a, b, c⟩ := fsI_zero q
      obtain ⟨e, f, g⟩ := fsI_zero hp
      exact ⟨a, b, c, e, f, g⟩
    · rw [if_neg q] at hp; exact absurd hp q
  have o := h.1
  have nn := sf_nn h
  have o1 : okF 1 1 = true := by decide
  have o2 : okF 2 1 = true := by decide
  obtain ⟨a1, b1⟩ := q_mu o o m
  obtain ⟨a2, b2⟩ := q_ad o1 (show okF (-(muN n d n d)) (muD n d n d) = true by rw [okF_neg1]; exact a1) l
  obtain ⟨a3, b3⟩ := q_ad o1 a1 hh
  obtain ⟨a4, b4⟩ := q_mu o o2 me
  obtain ⟨_, c2, c3⟩ := q_dv a2 a3 ce
  obtain ⟨_, s2, s3⟩ := q_dv a4 a3 se
  rw [b3, b2, q_11, q_neg, b1] at c3
  rw [b3, b4, q_11, q_21, b1] at s3
  change qv (c_N n d) (c_D n d) * _ = _ at c3
  change qv (s_N n d) (s_D n d) * _ = _ at s3
  change okF (c_N n d) (c_D n d) = true at c2
  change okF (s_N n d) (s_D n d) = true at s2
  have bd : n * n ≤ 400 ∧ d * d ≤ 400 := by
    obtain ⟨_, x1, x2, x3⟩ := h
    exact ⟨(bd_mul x1 x2 x1 x2).2, mul_up (by omega) x3 (by omega) x3⟩
  have b2d := bd_mul h.2.1 h.2.2.1 (show -20 ≤ d by omega) h.2.2.2
  have pn : 0 ≤ n * n := by
    rcases Int.le_total 0 n with q | q
    · exact Int.mul_nonneg q q
    · exact Int.mul_nonneg_of_nonpos_of_nonpos q q
  have pd : 0 < d * d := Int.mul_pos (by omega) (by omega)
  have dn : (d : Rat) ≠ 0 := cast_ne (by omega)
  have wn : ((d * d + n * n : Int) : Rat) ≠ 0 := cast_ne (by omega)
  have ec : qv (c_N n d) (c_D n d) = qv (d * d - n * n) (d * d + n * n) := by
    rw [q_div n d] at c3
    rw [q_div (d * d - n * n)]
    simp only [Rat.intCast_add, Rat.intCast_sub, Rat.intCast_mul] at wn ⊢
    generalize (n : Rat) = x at *
    generalize (d : Rat) = y at *
    generalize qv (c_N n d) (c_D n d) = c at *
    clear s3 b1 b2 b3 b4
    grind
  have es : qv (s_N n d) (s_D n d) = qv (2 * (n * d)) (d * d + n * n) := by
    rw [q_div n d] at s3
    rw [q_div (2 * (n * d))]
    simp only [Rat.intCast_add, Rat.intCast_sub, Rat.intCast_mul] at wn ⊢
    rw [show ((2 : Int) : Rat) = 2 from rfl]
    generalize (n : Rat) = x at *
    generalize (d : Rat) = y at *
    generalize qv (s_N n d) (s_D n d) = s at *
    clear c3 b1 b2 b3 b4 ec
    grind
  have pc := den_pos c2
  have ps := den_pos s2
  have kc := q_eq' (show c_D n d ≠ 0 by omega) (show d * d + n * n ≠ 0 by omega) ec
  have ks := q_eq' (show s_D n d ≠ 0 by omega) (show d * d + n * n ≠ 0 by omega) es
  exact ⟨sf_low c2 (by omega) kc.symm (by omega) (by omega) (by omega) (by omega) (by omega), sf_low s2 (by omega) ks.symm (by omega) (by omega) (by omega) (by omega) (by omega)⟩
def EM (M : Nat → Int) : Prop := ∀ i k, i < 3 → k < 3 → SF (M (i * 6 + k * 2)) (M (i * 6 + k * 2 + 1)) 800 800
theorem tu_sf {a : Nat} {c1 c2 s1 s2 : Int} (ha : a < 3) (hc : SF c1 c2 800 800) (hs : SF s1 s2 800 800) : EM (tuN a c1 c2 s1 s2) := by
  have z0 : SF 0 1 800 800 := sf_up sf_01 (by omega) (by omega)
  have z1 : SF 1 1 800 800 := sf_up sf_11 (by omega) (by omega)
  have hn := sf_neg hs
  intro i k hi hk
  rcases (show a = 0 ∨ a = 1 ∨ a = 2 by omega) with rfl | rfl | rfl <;> rcases (show i = 0 ∨ i = 1 ∨ i = 2 by omega) with rfl | rfl | rfl <;> rcases (show k = 0 ∨ k = 1 ∨ k = 2 by omega) with rfl | rfl | rfl <;> first | exact z0 | exact z1 | exact hc | exact hs | exact hn
theorem sf_do {a b c d e f g h i j k l : Int} (h1 : SF a b 800 800) (h2 : SF c d 800 800) (h3 : SF e f 800 800) (h4 : SF g h 800 800) (h5 : SF i j 800 800) (h6 : SF k l 800 800) : doE a b c d e f g h i j k l = 0 := by
  obtain ⟨p1, p2⟩ := sf_tw h1 h4 h2 h5 (by omega) (by omega) (by omega) (by omega) (by omega) (by omega)
  obtain ⟨r1, r2⟩ := sf_mu h3 h6 (by omega) (by omega)
  have z : doF a b c d e f g h i j k l = 0 := by unfold doF; rw [p1, r1]; rfl
  rw [doE, if_pos z]
  exact (sf_ad p2 r2 (by omega) (by omega)).1
theorem fe_zero {E : Nat → Int} : ∀ n, (∀ k, k < n → E k = 0) → feI E n = 0
  | 0, _ => rfl
  | n + 1, h => by rw [feI, if_pos (fe_zero n (fun k hk => h k (by omega)))]; exact h n (by omega)
theorem pm_sf {M N : Nat → Int} (oM : okM M) (oN : okM N) (hM : EM M) (hN : EM N) : pmE M N = 0 := by
  rw [pmE, if_pos ⟨oM, oN⟩]
  have m := fun i k (hi : i < 3) (hk : k < 3) => hM i k hi hk
  refine fe_zero 9 (fun k hk => ?_)
  have m00 := hM 0 0 (by omega) (by omega)
  have m01 := hM 0 1 (by omega) (by omega)
  have m02 := hM 0 2 (by omega) (by omega)
  have m10 := hM 1 0 (by omega) (by omega)
  have m11 := hM 1 1 (by omega) (by omega)
  have m12 := hM 1 2 (by omega) (by omega)
  have m20 := hM 2 0 (by omega) (by omega)
  have m21 := hM 2 1 (by omega) (by omega)
  have m22 := hM 2 2 (by omega) (by omega)
  have n00 := hN 0 0 (by omega) (by omega)
  have n01 := hN 0 1 (by omega) (by omega)
  have n02 := hN 0 2 (by omega) (by omega)
  have n10 := hN 1 0 (by omega) (by omega)
  have n11 := hN 1 1 (by omega) (by omega)
  have n12 := hN 1 2 (by omega) (by omega)
  have n20 := hN 2 0 (by omega) (by omega)
  have n21 := hN 2 1 (by omega) (by omega)
  have n22 := hN 2 2 (by omega) (by omega)
  rcases (show k = 0 ∨ k = 1 ∨ k = 2 ∨ k = 3 ∨ k = 4 ∨ k = 5 ∨ k = 6 ∨ k = 7 ∨ k = 8 by omega) with rfl | rfl | rfl | rfl | rfl | rfl | rfl | rfl | rfl
  · exact sf_do m00 m01 m02 n00 n10 n20
  · exact sf_do m00 m01 m02 n01 n11 n21
  · exact sf_do m00 m01 m02 n02 n12 n22
  · exact sf_do m10 m11 m12 n00 n10 n20
  · exact sf_do m10 m11 m12 n01 n11 n21
  · exact sf_do m10 m11 m12 n02 n12 n22
  · exact sf_do m20 m21 m22 n00 n10 n20
  · exact sf_do m20 m21 m22 n01 n11 n21
  · exact sf_do m20 m21 m22 n02 n12 n22
/-- The product of two turns is a rotation. -/
theorem rot_two {P : Nat → Int} {a b : Nat} {c s e f : Rat} (ha : a < 3) (hb : b < 3) (h : c * c + s * s = 1) (k : e * e + f * f = 1)
    (hv : ∀ i j, i < 3 → j < 3 → mv P i j = rotV a c s i 0 * rotV b e f 0 j + rotV a c s i 1 * rotV b e f 1 j + rotV a c s i 2 * rotV b e f 2 j) : Rot P := by
  constructor
  · intro i j hi hj
    rw [hv i 0 hi (by omega), hv i 1 hi (by omega), hv i 2 hi (by omega), hv j 0 hj (by omega), hv j 1 hj (by omega), hv j 2 hj (by omega)]
    clear hv
    rcases (show a = 0 ∨ a = 1 ∨ a = 2 by omega) with rfl | rfl | rfl <;> rcases (show b = 0 ∨ b = 1 ∨ b = 2 by omega) with rfl | rfl | rfl <;> rcases (show i = 0 ∨ i = 1 ∨ i = 2 by omega) with rfl | rfl | rfl <;> rcases (show j = 0 ∨ j = 1 ∨ j = 2 by omega) with rfl | rfl | rfl <;> simp [rotV] <;> grind
  · rw [hv 0 0, hv 0 1, hv 0 2, hv 1 0, hv 1 1, hv 1 2, hv 2 0, hv 2 1, hv 2 2] <;> try omega
    clear hv
    rcases (show a = 0 ∨ a = 1 ∨ a = 2 by omega) with rfl | rfl | rfl <;> rcases (show b = 0 ∨ b = 1 ∨ b = 2 by omega) with rfl | rfl | rfl <;> simp [rotV] <;> grind
/-- Turns about one axis, one behind the other. -/
theorem rot_sum {a : Nat} (ha : a < 3) (c s e f : Rat) : ∀ i j, i < 3 → j < 3 → rotV a (c * e - s * f) (s * e + c * f) i j = rotV a c s i 0 * rotV a e f 0 j + rotV a c s i 1 * rotV a e f 1 j + rotV a c s i 2 * rotV a e f 2 j := by
  intro i j hi hj
  rcases (show a = 0 ∨ a = 1 ∨ a = 2 by omega) with rfl | rfl | rfl <;> rcases (show i = 0 ∨ i = 1 ∨ i = 2 by omega) with rfl | rfl | rfl <;> rcases (show j = 0 ∨ j = 1 ∨ j = 2 by omega) with rfl | rfl | rfl <;> simp [rotV] <;> grind
theorem q_cancel {x y z : Rat} (hz : z ≠ 0) (h : x * z = y * z) : x = y := by grind
/-- The cosine and the sine of a sum. -/
theorem cos_sum {t u r c s e f g l : Rat} (ht : 1 + t * t ≠ 0) (hu : 1 + u * u ≠ 0) (hr : 1 + r * r ≠ 0) (hd : 1 - t * u ≠ 0) (h : r * (1 - t * u) = t + u)
    (c1 : c * (1 + t * t) = 1 - t * t) (s1 : s * (1 + t * t) = 2 * t) (e1 : e * (1 + u * u) = 1 - u * u) (f1 : f * (1 + u * u) = 2 * u) (g1 : g * (1 + r * r) = 1 - r * r) (l1 : l * (1 + r * r) = 2 * r) : g = c * e - s * f ∧ l = s * e + c * f := by
  have q : (1 + r * r) * ((1 - t * u) * (1 - t * u)) = (1 + t * t) * (1 + u * u) := by
    have : (r * (1 - t * u)) * (r * (1 - t * u)) = (t + u) * (t + u) := by rw [h]
    grind
  have hz : (1 + t * t) * (1 + u * u) ≠ 0 := by grind
  constructor
  · refine q_cancel hz ?_
    have k1 : g * ((1 + r * r) * ((1 - t * u) * (1 - t * u))) = (1 - t * u) * (1 - t * u) - (r * (1 - t * u)) * (r * (1 - t * u)) := by
      have : g * ((1 + r * r) * ((1 - t * u) * (1 - t * u))) = (g * (1 + r * r)) * ((1 - t * u) * (1 - t * u)) := by grind
      rw [this, g1]; grind
    rw [q, h] at k1
    have k2 : (c * e - s * f) * ((1 + t * t) * (1 + u * u)) = (c * (1 + t * t)) * (e * (1 + u * u)) - (s * (1 + t * t)) * (f * (1 + u * u)) := by grind
    rw [c1, e1, s1, f1] at k2
    rw [k1, k2]; grind
  · refine q_cancel hz ?_
    have k1 : l * ((1 + r * r) * ((1 - t * u) * (1 - t * u))) = 2 * (r * (1 - t * u)) * (1 - t * u) := by
      have : l * ((1 + r * r) * ((1 - t * u) * (1 - t * u))) = (l * (1 + r * r)) * ((1 - t * u) * (1 - t * u)) := by grind
      rw [this, l1]; grind
    rw [q, h] at k1
    have k2 : (s * e + c * f) * ((1 + t * t) * (1 + u * u)) = (s * (1 + t * t)) * (e * (1 + u * u)) + (c * (1 + t * t)) * (f * (1 + u * u)) := by grind
    rw [c1, e1, s1, f1] at k2
    rw [k1, k2]; grind
end Go.Proofs.Ytdolfdmgdknboaa
namespace Go.Proofs.Ytdolfdmgdknboaa
open Go.RowKit
set_option linter.unusedVariables false
set_option linter.unusedSimpArgs false

theorem fit_mk {N D x y : Int} (hD : 0 < D) (o : okF x y = true) (h : qv x y = qv N D) : mkN N D = x ∧ mkD N D = y ∧ mkE N D = 0 := by
  have p := den_pos o
  exact mk_eq N D x y hD o (q_eq' (by omega) (by omega) h).symm
theorem fit_mu {a b c d x y : Int} (o1 : okF a b = true) (o2 : okF c d = true) (o : okF x y = true) (h : qv x y = qv a b * qv c d) : muN a b c d = x ∧ muD a b c d = y ∧ muE a b c d = 0 := by
  have h1 := den_pos o1
  have h2 := den_pos o2
  have q : okF a b = true ∧ okF c d = true := ⟨o1, o2⟩
  rw [muN, muD, muE, if_pos q, if_pos q, if_pos q]
  exact fit_mk (Int.mul_pos h1 h2) o (by rw [q_mul]; exact h)
theorem fit_ad {a b c d x y : Int} (o1 : okF a b = true) (o2 : okF c d = true) (o : okF x y = true) (h : qv x y = qv a b + qv c d) : adN a b c d = x ∧ adD a b c d = y ∧ adE a b c d = 0 := by
  have h1 := den_pos o1
  have h2 := den_pos o2
  have q : okF a b = true ∧ okF c d = true := ⟨o1, o2⟩
  rw [adN, adD, adE, if_pos q, if_pos q, if_pos q]
  exact fit_mk (Int.mul_pos h1 h2) o (by rw [q_add _ _ _ _ (by omega) (by omega)]; exact h)
theorem fit_tw {a b c d e f g h x1 y1 x2 y2 x y : Int} (o1 : okF a b = true) (o2 : okF c d = true) (o3 : okF e f = true) (o4 : okF g h = true) (p1 : okF x1 y1 = true) (p2 : okF x2 y2 = true) (o : okF x y = true)
    (h1 : qv x1 y1 = qv a b * qv c d) (h2 : qv x2 y2 = qv e f * qv g h) (h3 : qv x y = qv a b * qv c d + qv e f * qv g h) : twN a b c d e f g h = x ∧ twD a b c d e f g h = y ∧ twE a b c d e f g h = 0 := by
  obtain ⟨a1, a2, a3⟩ := fit_mu o1 o2 p1 h1
  obtain ⟨b1, b2, b3⟩ := fit_mu o3 o4 p2 h2
  have z : fsI (muE a b c d) (muE e f g h) 0 = 0 := by rw [a3, b3]; rfl
  rw [twN, twD, twE, if_pos z, if_pos z, if_pos z, a1, a2, b1, b2]
  exact fit_ad p1 p2 o (by rw [h1, h2]; exact h3)
theorem fit_do {a b c d e f g h i j k l x1 y1 x2 y2 x3 y3 x4 y4 x y : Int} (o1 : okV a b c d e f = true) (o2 : okV g h i j k l = true) (p1 : okF x1 y1 = true) (p2 : okF x2 y2 = true) (p3 : okF x3 y3 = true) (p4 : okF x4 y4 = true) (o : okF x y = true)
    (h1 : qv x1 y1 = qv a b * qv g h) (h2 : qv x2 y2 = qv c d * qv i j) (h3 : qv x3 y3 = qv e f * qv k l) (h4 : qv x4 y4 = qv a b * qv g h + qv c d * qv i j) (h5 : qv x y = qv a b * qv g h + qv c d * qv i j + qv e f * qv k l) :
    doN a b c d e f g h i j k l = x ∧ doD a b c d e f g h i j k l = y ∧ doE a b c d e f g h i j k l = 0 := by
  obtain ⟨u1, u2, u3⟩ := okV_in o1
  obtain ⟨v1, v2, v3⟩ := okV_in o2
  obtain ⟨a1, a2, a3⟩ := fit_tw u1 v1 u2 v2 p1 p2 p4 h1 h2 h4
  obtain ⟨b1, b2, b3⟩ := fit_mu u3 v3 p3 h3
  have z : doF a b c d e f g h i j k l = 0 := by unfold doF; rw [a3, b3]; rfl
  rw [doN, doD, doE, if_pos z, if_pos z, if_pos z, a1, a2, b1, b2]
  exact fit_ad p4 p3 o (by rw [h4, h3]; exact h5)
end Go.Proofs.Ytdolfdmgdknboaa
