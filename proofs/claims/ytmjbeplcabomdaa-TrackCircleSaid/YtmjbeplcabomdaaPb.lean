/-
  Directions in numbers: their dot product with themselves (no walk).
-/
import Derived.Test.YtmjbeplcabomdaaPa
import Derived.Test.YtmjbeplcabomdaaSh
namespace Go.Proofs.Ytmjbeplcabomdaa
set_option linter.unusedVariables false
set_option linter.unusedSimpArgs false
def qxN (n a : Nat) : Bool := and (Nat.ble (Nat.add (Nat.mul (acL a n) (acL a n)) (Nat.mul (acL (Nat.sub n a) n) (acL (Nat.sub n a) n))) 1000000000000) (Nat.ble 1000000000000 (Nat.add (Nat.mul (acH a n) (acH a n)) (Nat.mul (acH (Nat.sub n a) n) (acH (Nat.sub n a) n))))
def qxsN (n : Nat) : Nat → Bool
  | 0 => qxN n 0
  | a + 1 => and (qxN n (a + 1)) (qxsN n a)
theorem qx_all : qxsN 720 720 = true := by decide +kernel
theorem qxs_out {n : Nat} : ∀ {a : Nat}, qxsN n a = true → ∀ b, b ≤ a → qxN n b = true
  | 0, h, b, hb => by obtain rfl : b = 0 := by omega
                      exact h
  | a + 1, h, b, hb => by
      have h2 : (qxN n (a + 1) && qxsN n a) = true := h
      rw [Bool.and_eq_true] at h2
      by_cases e : b = a + 1
      · subst e; exact h2.1
      · exact qxs_out h2.2 b (by omega)
theorem qx_gen {n : Nat} (a : Nat) (h : qxN n a = true) : acL a n * acL a n + acL (n - a) n * acL (n - a) n ≤ 1000000000000 ∧ 1000000000000 ≤ acH a n * acH a n + acH (n - a) n * acH (n - a) n := by
  rw [qxN, Bool.and_eq_true] at h
  have h1 := Nat.le_of_ble_eq_true h.1
  have h2 := Nat.le_of_ble_eq_true h.2
  rw [nadd, nmul, nmul, nsub] at h1 h2
  exact ⟨h1, h2⟩
theorem qx_int {a b c d : Nat} (h : a * a + b * b ≤ 1000000000000 ∧ 1000000000000 ≤ c * c + d * d) : (a : Int) * a + (b : Int) * b ≤ 1000000000000 ∧ 1000000000000 ≤ (c : Int) * c + (d : Int) * d := by
  have e1 : ((a * a + b * b : Nat) : Int) = (a : Int) * a + (b : Int) * b := by push_cast; rfl
  have e2 : ((c * c + d * d : Nat) : Int) = (c : Int) * c + (d : Int) * d := by push_cast; rfl
  omega
theorem qx_out (a : Nat) (ha : a ≤ 720) : acL a 720 * acL a 720 + acL (720 - a) 720 * acL (720 - a) 720 ≤ 1000000000000 ∧ 1000000000000 ≤ acH a 720 * acH a 720 + acH (720 - a) 720 * acH (720 - a) 720 :=
  qx_gen a (qxs_out qx_all a ha)
/-- A cosine and a sine: each of one sign, of width at most 1, with exact squares around 1. -/
structure Ang (l h l' h' a b c d : Int) : Prop where
  sc : sgS l h a b
  ss : sgS l' h' c d
  a0 : 0 ≤ a
  ab : a ≤ b
  a1 : b ≤ a + 1
  b1 : b ≤ 1000000
  c0 : 0 ≤ c
  cd : c ≤ d
  c1 : d ≤ c + 1
  d1 : d ≤ 1000000
  lo : a * a + c * c ≤ 1000000000000
  hi : 1000000000000 ≤ b * b + d * d
theorem ang (k : Int) : ∃ a b c d : Int, Ang (cL k) (cH k) (sL k) (sH k) a b c d := by
  have al := al_le (4 * k) 720 (by omega)
  have w1 := ac_wid 720 (alN (4 * k) 720) (by omega) (by omega) al
  have w2 := ac_wid 720 (720 - alN (4 * k) 720) (by omega) (by omega) (by omega)
  obtain ⟨q1, q2⟩ := qx_int (qx_out (alN (4 * k) 720) al)
  have s1 := sg_cs (4 * k)
  have s2 := sg_cs (4 * k - 720)
  have e : alN (4 * k - 720) 720 = 720 - alN (4 * k) 720 := al_quarter (4 * k) 720 (by omega)
  rw [e] at s2
  exact ⟨_, _, _, _, s1, s2, by omega, by omega, by omega, by omega, by omega, by omega, by omega, by omega, q1, q2⟩
/-- The direction with a declination and a longitude (both in half degrees). -/
def dxL (d l : Int) : Int := smL (cL d) (cH d) (cL l) (cH l)
def dxH (d l : Int) : Int := smH (cL d) (cH d) (cL l) (cH l)
def dyL (d l : Int) : Int := smL (cL d) (cH d) (sL l) (sH l)
def dyH (d l : Int) : Int := smH (cL d) (cH d) (sL l) (sH l)
/-- A sum of products, and its error. -/
def suR : List (Int × Int × Int × Int) → Int → Int → Int × Int × Int
  | [], l, h => (l, h, 0)
  | (a, b, c, d) :: r, l, h => if smE a b c d = 0 then (if saE l h (smL a b c d) (smH a b c d) = 0 then suR r (saL l h (smL a b c d) (smH a b c d)) (saH l h (smL a b c d) (smH a b c d)) else (0, 0, saE l h (smL a b c d) (smH a b c d))) else (0, 0, smE a b c d)
theorem sm_valid {a b c d : Int} (e : smE a b c d = 0) : spV (smL a b c d) (smH a b c d) = true ∧ bV a b c d = true := by
  unfold smE at e
  by_cases hb : bV a b c d = true
  · rw [if_pos hb] at e
    obtain ⟨e1, e2, e3⟩ := md_out e
    rw [smL, smH, if_pos hb, if_pos hb, e1, e2]
    exact ⟨e3, hb⟩
  · rw [if_neg hb] at e; omega
theorem sa_ok {a b c d : Int} (h1 : spV a b = true) (h2 : spV c d = true) (h3 : spV (a + c) (b + d) = true) : saE a b c d = 0 ∧ saL a b c d = a + c ∧ saH a b c d = b + d := by
  have hb : bV a b c d = true := by rw [bV, h1, h2]; rfl
  rw [saE, saL, saH, if_pos hb, if_pos hb, if_pos hb, mdE, mdL, mdH, if_pos h3, if_pos h3, if_pos h3]
  exact ⟨rfl, rfl, rfl⟩
theorem su_step {a b c d l h : Int} (r : List (Int × Int × Int × Int)) (e : smE a b c d = 0) (hl : spV l h = true) (hv : spV (l + smL a b c d) (h + smH a b c d) = true) :
    suR ((a, b, c, d) :: r) l h = suR r (l + smL a b c d) (h + smH a b c d) := by
  obtain ⟨a1, a2, a3⟩ := sa_ok hl (sm_valid e).1 hv
  rw [suR, if_pos e, if_pos a1, a2, a3]
theorem sp_of {a b : Int} (h1 : a ≤ b) (h2 : -3000000000 ≤ a) (h3 : b ≤ 3000000000) : spV a b = true := by simp [spV]; omega
/-- Three products of numbers that are not great. -/
theorem su_three {a1 b1 c1 d1 a2 b2 c2 d2 a3 b3 c3 d3 : Int} (e1 : smE a1 b1 c1 d1 = 0) (e2 : smE a2 b2 c2 d2 = 0) (e3 : smE a3 b3 c3 d3 = 0)
    (u1 : unitS (smL a1 b1 c1 d1) (smH a1 b1 c1 d1)) (u2 : unitS (smL a2 b2 c2 d2) (smH a2 b2 c2 d2)) (u3 : unitS (smL a3 b3 c3 d3) (smH a3 b3 c3 d3)) :
    suR [(a1, b1, c1, d1), (a2, b2, c2, d2), (a3, b3, c3, d3)] 0 0 = (smL a1 b1 c1 d1 + smL a2 b2 c2 d2 + smL a3 b3 c3 d3, smH a1 b1 c1 d1 + smH a2 b2 c2 d2 + smH a3 b3 c3 d3, 0) := by
  unfold unitS at u1 u2 u3
  rw [su_step _ e1 (sp_of (by omega) (by omega) (by omega)) (sp_of (by omega) (by omega) (by omega)), su_step _ e2 (sp_of (by omega) (by omega) (by omega)) (sp_of (by omega) (by omega) (by omega)), su_step _ e3 (sp_of (by omega) (by omega) (by omega)) (sp_of (by omega) (by omega) (by omega)), suR, Int.zero_add, Int.zero_add]
theorem su_two {a1 b1 c1 d1 a2 b2 c2 d2 : Int} (e1 : smE a1 b1 c1 d1 = 0) (e2 : smE a2 b2 c2 d2 = 0)
    (u1 : unitS (smL a1 b1 c1 d1) (smH a1 b1 c1 d1)) (u2 : unitS (smL a2 b2 c2 d2) (smH a2 b2 c2 d2)) :
    suR [(a1, b1, c1, d1), (a2, b2, c2, d2)] 0 0 = (smL a1 b1 c1 d1 + smL a2 b2 c2 d2, smH a1 b1 c1 d1 + smH a2 b2 c2 d2, 0) := by
  unfold unitS at u1 u2
  rw [su_step _ e1 (sp_of (by omega) (by omega) (by omega)) (sp_of (by omega) (by omega) (by omega)), su_step _ e2 (sp_of (by omega) (by omega) (by omega)) (sp_of (by omega) (by omega) (by omega)), suR, Int.zero_add, Int.zero_add]
theorem d_unit (d l : Int) : smE (cL d) (cH d) (cL l) (cH l) = 0 ∧ smE (cL d) (cH d) (sL l) (sH l) = 0 ∧ unitS (dxL d l) (dxH d l) ∧ unitS (dyL d l) (dyH d l) := by
  have m1 := mul_unit (c_unit d).1 (c_unit l).1
  have m2 := mul_unit (c_unit d).1 (c_unit l).2
  exact ⟨m1.1, m2.1, m1.2.1, m2.2.1⟩
/-- The product of two numbers of width at most 1 has width at most 3. -/
theorem prod_wid {a b c d : Int} (a0 : 0 ≤ a) (ab : a ≤ b) (a1 : b ≤ a + 1) (b1 : b ≤ 1000000) (c0 : 0 ≤ c) (cd : c ≤ d) (c1 : d ≤ c + 1) (d1 : d ≤ 1000000) :
    0 ≤ a * c / 1000000 ∧ a * c / 1000000 ≤ (b * d + 999999) / 1000000 ∧ (b * d + 999999) / 1000000 ≤ a * c / 1000000 + 3 ∧ (b * d + 999999) / 1000000 ≤ 1000000 := by
  have p0 := Int.mul_nonneg a0 c0
  have p1 := Int.mul_le_mul ab cd c0 (by omega)
  have p2 := Int.mul_le_mul a1 c1 (by omega) (by omega)
  have p3 : (a + 1) * (c + 1) = a * c + a + c + 1 := by grind
  have p5 := Int.mul_le_mul b1 d1 (show 0 ≤ d by omega) (show (0 : Int) ≤ 1000000 by omega)
  omega
theorem sq_wid {a b : Int} (a0 : 0 ≤ a) (ab : a ≤ b) (a1 : b ≤ a + 3) (b1 : b ≤ 1000000) : 0 ≤ a * a ∧ a * a ≤ b * b ∧ b * b ≤ a * a + 6 * a + 9 ∧ b * b ≤ 1000000000000 := by
  have p0 := Int.mul_nonneg a0 a0
  have p1 := Int.mul_le_mul ab ab a0 (by omega)
  have p2 := Int.mul_le_mul a1 a1 (by omega) (by omega)
  have p3 : (a + 3) * (a + 3) = a * a + 6 * a + 9 := by grind
  have p5 := Int.mul_le_mul b1 b1 (by omega) (show (0 : Int) ≤ 1000000 by omega)
  omega
theorem ring_lo {c s a b x y : Int} (c0 : 0 ≤ c) (a0 : 0 ≤ a) (b0 : 0 ≤ b) (h1 : c * c + s * s ≤ 1000000000000) (h2 : a * a + b * b ≤ 1000000000000) (x0 : 0 ≤ x) (y0 : 0 ≤ y) (hx : x * 1000000 ≤ c * a) (hy : y * 1000000 ≤ c * b) :
    x * x + y * y + s * s ≤ 1000000000000 := by
  have q1 := Int.mul_le_mul hx hx (by omega) (Int.mul_nonneg c0 a0)
  have q2 := Int.mul_le_mul hy hy (by omega) (Int.mul_nonneg c0 b0)
  have q3 := Int.mul_le_mul_of_nonneg_left h2 (Int.mul_nonneg c0 c0)
  have e1 : x * 1000000 * (x * 1000000) = x * x * 1000000000000 := by grind
  have e2 : y * 1000000 * (y * 1000000) = y * y * 1000000000000 := by grind
  have e3 : c * a * (c * a) + c * b * (c * b) = c * c * (a * a + b * b) := by grind
  omega
theorem ring_hi {c s a b x y : Int} (c0 : 0 ≤ c) (a0 : 0 ≤ a) (b0 : 0 ≤ b) (h1 : 1000000000000 ≤ c * c + s * s) (h2 : 1000000000000 ≤ a * a + b * b) (x0 : 0 ≤ x) (y0 : 0 ≤ y) (hx : c * a ≤ x * 1000000) (hy : c * b ≤ y * 1000000) :
    1000000000000 ≤ x * x + y * y + s * s := by
  have q1 := Int.mul_le_mul hx hx (Int.mul_nonneg c0 a0) (by omega)
  have q2 := Int.mul_le_mul hy hy (Int.mul_nonneg c0 b0) (by omega)
  have q3 := Int.mul_le_mul_of_nonneg_left h2 (Int.mul_nonneg c0 c0)
  have e1 : x * 1000000 * (x * 1000000) = x * x * 1000000000000 := by grind
  have e2 : y * 1000000 * (y * 1000000) = y * y * 1000000000000 := by grind
  have e3 : c * a * (c * a) + c * b * (c * b) = c * c * (a * a + b * b) := by grind
  omega
theorem fin_lo {xx yy cc : Int} (l1 : xx + yy + cc ≤ 1000000000000) : xx / 1000000 + yy / 1000000 + cc / 1000000 ≤ 1000000 := by omega
theorem fin_hi {xx yy ee : Int} (h1 : 1000000000000 ≤ xx + yy + ee) : 1000000 ≤ (xx + 999999) / 1000000 + (yy + 999999) / 1000000 + (ee + 999999) / 1000000 := by omega
theorem fin_one {p q : Int} : (q + 999999) / 1000000 * 1000000 - p / 1000000 * 1000000 ≤ q - p + 1999998 := by omega
theorem fin_wid {xx yy cc xx' yy' ee x y c : Int} (f1 : xx' ≤ xx + 6 * x + 9) (f2 : yy' ≤ yy + 6 * y + 9) (f3 : ee ≤ cc + 2 * c + 1) (x1 : x ≤ 1000000) (y1 : y ≤ 1000000) (c1 : c ≤ 1000000) :
    (xx' + 999999) / 1000000 + (yy' + 999999) / 1000000 + (ee + 999999) / 1000000 - (xx / 1000000 + yy / 1000000 + cc / 1000000) ≤ 20 := by
  have k1 := fin_one (p := xx) (q := xx')
  have k2 := fin_one (p := yy) (q := yy')
  have k3 := fin_one (p := cc) (q := ee)
  generalize (xx' + 999999) / 1000000 = u1 at *
  generalize (yy' + 999999) / 1000000 = u2 at *
  generalize (ee + 999999) / 1000000 = u3 at *
  generalize xx / 1000000 = u4 at *
  generalize yy / 1000000 = u5 at *
  generalize cc / 1000000 = u6 at *
  omega
theorem div_lo {x p : Int} (h : x = p / 1000000) : x * 1000000 ≤ p := by omega
theorem div_hi {x p : Int} (h : x = (p + 999999) / 1000000) : p ≤ x * 1000000 := by omega
theorem self_num {a b c e p q r t : Int} (a0 : 0 ≤ a) (ab : a ≤ b) (a1 : b ≤ a + 1) (b1 : b ≤ 1000000) (c0 : 0 ≤ c) (cd : c ≤ e) (c1 : e ≤ c + 1) (d1 : e ≤ 1000000) (lo : a * a + c * c ≤ 1000000000000) (hi : 1000000000000 ≤ b * b + e * e)
    (p0 : 0 ≤ p) (pq : p ≤ q) (p1 : q ≤ p + 1) (q1 : q ≤ 1000000) (r0 : 0 ≤ r) (rt : r ≤ t) (r1 : t ≤ r + 1) (t1 : t ≤ 1000000) (lo2 : p * p + r * r ≤ 1000000000000) (hi2 : 1000000000000 ≤ q * q + t * t)
    {x x' y y' : Int} (hx : x = a * p / 1000000) (hx' : x' = (b * q + 999999) / 1000000) (hy : y = a * r / 1000000) (hy' : y' = (b * t + 999999) / 1000000) :
    (0 ≤ x ∧ x ≤ x' ∧ x' ≤ 1000000 ∧ 0 ≤ y ∧ y ≤ y' ∧ y' ≤ 1000000) ∧ x * x / 1000000 + y * y / 1000000 + c * c / 1000000 ≤ 1000000 ∧ 1000000 ≤ (x' * x' + 999999) / 1000000 + (y' * y' + 999999) / 1000000 + (e * e + 999999) / 1000000 ∧
    (x' * x' + 999999) / 1000000 + (y' * y' + 999999) / 1000000 + (e * e + 999999) / 1000000 - (x * x / 1000000 + y * y / 1000000 + c * c / 1000000) ≤ 20 := by
  obtain ⟨g1, g2, g3, g4⟩ : 0 ≤ x ∧ x ≤ x' ∧ x' ≤ x + 3 ∧ x' ≤ 1000000 := by rw [hx, hx']; exact prod_wid a0 ab a1 b1 p0 pq p1 q1
  obtain ⟨k1, k2, k3, k4⟩ : 0 ≤ y ∧ y ≤ y' ∧ y' ≤ y + 3 ∧ y' ≤ 1000000 := by rw [hy, hy']; exact prod_wid a0 ab a1 b1 r0 rt r1 t1
  have u1 := div_lo hx
  have u2 := div_hi hx'
  have u3 := div_lo hy
  have u4 := div_hi hy'
  clear hx hx' hy hy'
  obtain ⟨f1, f2, f3, f4⟩ := sq_wid g1 g2 g3 g4
  obtain ⟨n1, n2, n3, n4⟩ := sq_wid k1 k2 k3 k4
  have b0 : 0 ≤ b := Int.le_trans a0 ab
  have e0 : 0 ≤ e := Int.le_trans c0 cd
  have q0 : 0 ≤ q := Int.le_trans p0 pq
  have t0 : 0 ≤ t := Int.le_trans r0 rt
  have x0 : 0 ≤ x' := Int.le_trans g1 g2
  have y0 : 0 ≤ y' := Int.le_trans k1 k2
  have z5 : e * e ≤ c * c + 2 * c + 1 := by
    have := Int.mul_le_mul c1 c1 e0 (Int.le_trans e0 c1)
    have e1 : (c + 1) * (c + 1) = c * c + 2 * c + 1 := by grind
    rw [e1] at this
    exact this
  have l1 := ring_lo a0 p0 r0 lo lo2 g1 k1 u1 u3
  have h1 := ring_hi b0 q0 t0 hi hi2 x0 y0 u2 u4
  refine ⟨⟨g1, g2, g4, k1, k2, k4⟩, fin_lo l1, fin_hi h1, fin_wid f3 n3 z5 (Int.le_trans g2 g4) (Int.le_trans k2 k4) (Int.le_trans cd d1)⟩
theorem dx_sg {d l a b c e p q r t : Int} (hd : Ang (cL d) (cH d) (sL d) (sH d) a b c e) (hl : Ang (cL l) (cH l) (sL l) (sH l) p q r t) :
    sgS (dxL d l) (dxH d l) (a * p / 1000000) ((b * q + 999999) / 1000000) ∧ sgS (dyL d l) (dyH d l) (a * r / 1000000) ((b * t + 999999) / 1000000) :=
  ⟨(mulS hd.sc hl.sc hd.a0 hd.ab hd.b1 hl.a0 hl.ab hl.b1).1, (mulS hd.sc hl.ss hd.a0 hd.ab hd.b1 hl.c0 hl.cd hl.d1).1⟩
/-- A direction's dot product with itself. -/
theorem self_dot (d l : Int) : ∃ L H : Int, suR [(dxL d l, dxH d l, dxL d l, dxH d l), (dyL d l, dyH d l, dyL d l, dyH d l), (sL d, sH d, sL d, sH d)] 0 0 = (L, H, 0) ∧ L ≤ 1000000 ∧ 1000000 ≤ H ∧ H - L ≤ 20 := by
  obtain ⟨m1, m2, u1, u2⟩ := d_unit d l
  have u3 := (c_unit d).2
  have v1 := mul_unit u1 u1
  have v2 := mul_unit u2 u2
  have v3 := mul_unit u3 u3
  refine ⟨_, _, su_three v1.1 v2.1 v3.1 v1.2.1 v2.2.1 v3.2.1, ?_⟩
  obtain ⟨a, b, c, e, hd⟩ := ang d
  obtain ⟨p, q, r, t, hl⟩ := ang l
  obtain ⟨x1, y1⟩ := dx_sg hd hl
  obtain ⟨⟨g1, g2, g3, g4, g5, g6⟩, fin⟩ := self_num hd.a0 hd.ab hd.a1 hd.b1 hd.c0 hd.cd hd.c1 hd.d1 hd.lo hd.hi hl.a0 hl.ab hl.a1 hl.b1 hl.c0 hl.cd hl.c1 hl.d1 hl.lo hl.hi rfl rfl rfl rfl
  obtain ⟨sx1, sx2, _⟩ := sqS x1 g1 g2 g3
  obtain ⟨sy1, sy2, _⟩ := sqS y1 g4 g5 g6
  obtain ⟨sz1, sz2, _⟩ := sqS hd.ss hd.c0 hd.cd hd.d1
  rw [sx1, sx2, sy1, sy2, sz1, sz2]
  exact fin
end Go.Proofs.Ytmjbeplcabomdaa
