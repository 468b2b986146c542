/-
  The values of fractions, of vectors and of matrices: exact arithmetic of what the operations return.
-/
import Derived.Test.YtdolfdmgdknboaaKu
import Derived.Test.YtdolfdmgdknboaaWk3
import Init.Data.Rat.Lemmas
namespace Go.Proofs.Ytdolfdmgdknboaa
open Go.RowKit
set_option linter.unusedVariables false
set_option linter.unusedSimpArgs false

/-- The value of a fraction. -/
def qv (n d : Int) : Rat := Rat.divInt n d
theorem q_eq {a b c d : Int} (hb : b ≠ 0) (hd : d ≠ 0) (h : a * d = c * b) : qv a b = qv c d := (Rat.divInt_eq_divInt_iff hb hd).2 h
theorem q_eq' {a b c d : Int} (hb : b ≠ 0) (hd : d ≠ 0) (h : qv a b = qv c d) : a * d = c * b := (Rat.divInt_eq_divInt_iff hb hd).1 h
theorem q_mul (a b c d : Int) : qv (a * c) (b * d) = qv a b * qv c d := (Rat.divInt_mul_divInt a c).symm
theorem q_add (a b c d : Int) (hb : b ≠ 0) (hd : d ≠ 0) : qv (a * d + c * b) (b * d) = qv a b + qv c d := (Rat.divInt_add_divInt a c hb hd).symm
theorem q_neg (a b : Int) : qv (-a) b = -qv a b := (Rat.neg_divInt a b).symm
theorem q_01 : qv 0 1 = 0 := by decide +kernel
theorem q_11 : qv 1 1 = 1 := by decide +kernel
theorem q_21 : qv 2 1 = 2 := by decide +kernel
theorem q_00 (d : Int) : qv 0 d = 0 := Rat.zero_divInt d
theorem low_eq (n1 d1 n2 d2 : Int) (o1 : okF n1 d1 = true) (o2 : okF n2 d2 = true) (h : n1 * d2 = n2 * d1) : n1 = n2 ∧ d1 = d2 := by
  obtain ⟨a1, a2, a3, a4, a5⟩ := okF_out o1
  obtain ⟨b1, b2, b3, b4, b5⟩ := okF_out o2
  obtain ⟨e1, e2⟩ := red_eq n1 d1 n2 d2 (by omega) b1 b5 h
  obtain ⟨e3, e4⟩ := red_eq n1 d1 n1 d1 (by omega) a1 a5 rfl
  exact ⟨e3.symm.trans e1, e4.symm.trans e2⟩
theorem q_inj {a b c d : Int} (o1 : okF a b = true) (o2 : okF c d = true) (h : qv a b = qv c d) : a = c ∧ b = d := by
  obtain ⟨x1, _⟩ := okF_out o1
  obtain ⟨y1, _⟩ := okF_out o2
  exact low_eq a b c d o1 o2 (q_eq' (by omega) (by omega) h)
theorem q_mk (N D : Int) (hD : 0 < D) (h : mkE N D = 0) : okF (mkN N D) (mkD N D) = true ∧ qv (mkN N D) (mkD N D) = qv N D := by
  obtain ⟨h1, h2⟩ := mk_of N D hD h
  obtain ⟨x1, _⟩ := okF_out h1
  exact ⟨h1, q_eq (by omega) (by omega) h2⟩
theorem den_pos {a b : Int} (o : okF a b = true) : 0 < b := by obtain ⟨x1, _⟩ := okF_out o; omega
theorem q_mu {a b c d : Int} (o1 : okF a b = true) (o2 : okF c d = true) (h : muE a b c d = 0) : okF (muN a b c d) (muD a b c d) = true ∧ qv (muN a b c d) (muD a b c d) = qv a b * qv c d := by
  have h1 := den_pos o1
  have h2 := den_pos o2
  rw [muE, if_pos ⟨o1, o2⟩] at h
  rw [muN, muD, if_pos ⟨o1, o2⟩, if_pos ⟨o1, o2⟩]
  obtain ⟨k1, k2⟩ := q_mk _ _ (Int.mul_pos h1 h2) h
  exact ⟨k1, k2.trans (q_mul a b c d)⟩
theorem q_ad {a b c d : Int} (o1 : okF a b = true) (o2 : okF c d = true) (h : adE a b c d = 0) : okF (adN a b c d) (adD a b c d) = true ∧ qv (adN a b c d) (adD a b c d) = qv a b + qv c d := by
  have h1 := den_pos o1
  have h2 := den_pos o2
  rw [adE, if_pos ⟨o1, o2⟩] at h
  rw [adN, adD, if_pos ⟨o1, o2⟩, if_pos ⟨o1, o2⟩]
  obtain ⟨k1, k2⟩ := q_mk _ _ (Int.mul_pos h1 h2) h
  exact ⟨k1, k2.trans (q_add a b c d (by omega) (by omega))⟩
theorem q_dv {a b c d : Int} (o1 : okF a b = true) (o2 : okF c d = true) (h : dvE a b c d = 0) : c ≠ 0 ∧ okF (dvN a b c d) (dvD a b c d) = true ∧ qv (dvN a b c d) (dvD a b c d) * qv c d = qv a b := by
  have h1 := den_pos o1
  have h2 := den_pos o2
  rw [dvE, if_pos ⟨o1, o2⟩] at h
  by_cases hc : c = 0
  · rw [if_pos hc] at h; exact absurd h (by omega)
  rw [if_neg hc] at h
  have q : okF a b = true ∧ okF c d = true := ⟨o1, o2⟩
  rw [dvN, dvD, if_pos q, if_pos q, if_neg hc, if_neg hc]
  have ha : 0 < absI c := by unfold absI; omega
  obtain ⟨k1, k2⟩ := q_mk _ _ (Int.mul_pos h1 ha) h
  refine ⟨hc, k1, ?_⟩
  rw [k2, ← q_mul]
  have hp := Int.mul_pos (Int.mul_pos h1 ha) h2
  refine q_eq (by omega) (by omega) ?_
  have e : flN c d * c = d * absI c := by
    unfold flN absI
    split
    · rw [show ((c.natAbs : Nat) : Int) = -c by omega]; grind
    · rw [show ((c.natAbs : Nat) : Int) = c by omega]
  generalize flN c d = x at *
  generalize absI c = y at *
  grind
theorem q_tw {a b c d e f g h : Int} (o1 : okF a b = true) (o2 : okF c d = true) (o3 : okF e f = true) (o4 : okF g h = true) (k : twE a b c d e f g h = 0) : okF (twN a b c d e f g h) (twD a b c d e f g h) = true ∧ qv (twN a b c d e f g h) (twD a b c d e f g h) = qv a b * qv c d + qv e f * qv g h := by
  unfold twE at k; unfold twN twD
  by_cases q : fsI (muE a b c d) (muE e f g h) 0 = 0
  · rw [if_pos q] at k; rw [if_pos q, if_pos q]
    obtain ⟨m1, m2, _⟩ := fsI_zero q
    obtain ⟨p1, p2⟩ := q_mu o1 o2 m1
    obtain ⟨r1, r2⟩ := q_mu o3 o4 m2
    obtain ⟨s1, s2⟩ := q_ad p1 r1 k
    exact ⟨s1, by rw [s2, p2, r2]⟩
  · rw [if_neg q] at k; exact absurd k q
theorem q_do {a b c d e f g h i j k l : Int} (o1 : okV a b c d e f = true) (o2 : okV g h i j k l = true) (z : doE a b c d e f g h i j k l = 0) : okF (doN a b c d e f g h i j k l) (doD a b c d e f g h i j k l) = true ∧ qv (doN a b c d e f g h i j k l) (doD a b c d e f g h i j k l) = qv a b * qv g h + qv c d * qv i j + qv e f * qv k l := by
  obtain ⟨u1, u2, u3⟩ := okV_in o1
  obtain ⟨v1, v2, v3⟩ := okV_in o2
  unfold doE at z; unfold doN doD
  by_cases q : doF a b c d e f g h i j k l = 0
  · rw [if_pos q] at z; rw [if_pos q, if_pos q]
    obtain ⟨m1, m2, _⟩ := fsI_zero q
    obtain ⟨p1, p2⟩ := q_tw u1 v1 u2 v2 m1
    obtain ⟨r1, r2⟩ := q_mu u3 v3 m2
    obtain ⟨s1, s2⟩ := q_ad p1 r1 z
    exact ⟨s1, by rw [s2, p2, r2]⟩
  · rw [if_neg q] at z; exact absurd z q

/-- The value of an element of a matrix, of a coordinate of a vector. -/
def mv (M : Nat → Int) (i k : Nat) : Rat := qv (M (i * 6 + k * 2)) (M (i * 6 + k * 2 + 1))
def vv (V : Nat → Int) (k : Nat) : Rat := qv (V (k * 2)) (V (k * 2 + 1))
theorem row_ok {M : Nat → Int} (h : okM M) (i k : Nat) (hi : i < 3) (hk : k < 3) : okF (M (i * 6 + k * 2)) (M (i * 6 + k * 2 + 1)) = true := by
  obtain ⟨a, b, c⟩ := h i hi
  rcases (show k = 0 ∨ k = 1 ∨ k = 2 by omega) with rfl | rfl | rfl
  · exact a
  · exact b
  · exact c
theorem mat_ext {M N : Nat → Int} (hM : okM M) (hN : okM N) (h : ∀ i k, i < 3 → k < 3 → mv M i k = mv N i k) : ∀ o, o < 18 → M o = N o := by
  intro o ho
  have hi : o / 6 < 3 := by omega
  have hk : o % 6 / 2 < 3 := by omega
  obtain ⟨e1, e2⟩ := q_inj (row_ok hM _ _ hi hk) (row_ok hN _ _ hi hk) (h _ _ hi hk)
  by_cases p : o % 2 = 0
  · rw [show o / 6 * 6 + o % 6 / 2 * 2 = o by omega] at e1; exact e1
  · rw [show o / 6 * 6 + o % 6 / 2 * 2 + 1 = o by omega] at e2; exact e2
theorem okW_in {V : Nat → Int} (h : okW V) : okF (V 0) (V 1) = true ∧ okF (V 2) (V 3) = true ∧ okF (V 4) (V 5) = true := okV_in h
theorem okW_of {V : Nat → Int} (a : okF (V 0) (V 1) = true) (b : okF (V 2) (V 3) = true) (c : okF (V 4) (V 5) = true) : okW V := by
  unfold okW okV; rw [a, b, c]; rfl
theorem vec_ext {V U : Nat → Int} (hV : okW V) (hU : okW U) (h0 : vv V 0 = vv U 0) (h1 : vv V 1 = vv U 1) (h2 : vv V 2 = vv U 2) : ∀ o, o < 6 → V o = U o := by
  obtain ⟨a, b, c⟩ := okW_in hV
  obtain ⟨d, e, f⟩ := okW_in hU
  obtain ⟨x0, x1⟩ := q_inj a d h0
  obtain ⟨x2, x3⟩ := q_inj b e h1
  obtain ⟨x4, x5⟩ := q_inj c f h2
  intro o ho
  rcases (show o = 0 ∨ o = 1 ∨ o = 2 ∨ o = 3 ∨ o = 4 ∨ o = 5 by omega) with rfl | rfl | rfl | rfl | rfl | rfl <;> assumption
theorem q_ap {M V : Nat → Int} (hM : okM M) (hV : okW V) (h : apE M V = 0) : okW (apR M V) ∧ ∀ i, i < 3 → vv (apR M V) i = mv M i 0 * vv V 0 + mv M i 1 * vv V 1 + mv M i 2 * vv V 2 := by
  rw [apE, if_pos ⟨hM, hV⟩] at h
  have e : ∀ o, apR M V o = apL M V o := fun o => by rw [apR, if_pos ⟨hM, hV⟩, vz, if_pos h]
  obtain ⟨z0, z1, z2⟩ := fsI_zero h
  obtain ⟨u1, u2, u3⟩ := okM_row M hM
  obtain ⟨a0, b0⟩ := q_do u1 hV z0
  obtain ⟨a1, b1⟩ := q_do u2 hV z1
  obtain ⟨a2, b2⟩ := q_do u3 hV z2
  refine ⟨okW_of (by rw [e, e]; exact a0) (by rw [e, e]; exact a1) (by rw [e, e]; exact a2), fun i hi => ?_⟩
  unfold vv
  rw [e, e]
  rcases (show i = 0 ∨ i = 1 ∨ i = 2 by omega) with rfl | rfl | rfl
  · exact b0
  · exact b1
  · exact b2
theorem q_pm {M N : Nat → Int} (hM : okM M) (hN : okM N) (h : pmE M N = 0) : okM (pmR M N) ∧ ∀ i k, i < 3 → k < 3 → mv (pmR M N) i k = mv M i 0 * mv N 0 k + mv M i 1 * mv N 1 k + mv M i 2 * mv N 2 k := by
  rw [pmE, if_pos ⟨hM, hN⟩] at h
  have e : ∀ o, pmR M N o = pL M N o := fun o => by rw [pmR, if_pos ⟨hM, hN⟩, prR, vz, if_pos h]
  have z := feI_all h
  obtain ⟨u1, u2, u3⟩ := okM_row M hM
  obtain ⟨v1, v2, v3⟩ := (okM_flip hN).2
  obtain ⟨a0, b0⟩ := q_do u1 v1 (z 0 (by omega))
  obtain ⟨a1, b1⟩ := q_do u1 v2 (z 1 (by omega))
  obtain ⟨a2, b2⟩ := q_do u1 v3 (z 2 (by omega))
  obtain ⟨a3, b3⟩ := q_do u2 v1 (z 3 (by omega))
  obtain ⟨a4, b4⟩ := q_do u2 v2 (z 4 (by omega))
  obtain ⟨a5, b5⟩ := q_do u2 v3 (z 5 (by omega))
  obtain ⟨a6, b6⟩ := q_do u3 v1 (z 6 (by omega))
  obtain ⟨a7, b7⟩ := q_do u3 v2 (z 7 (by omega))
  obtain ⟨a8, b8⟩ := q_do u3 v3 (z 8 (by omega))
  constructor
  · intro i hi
    unfold rowOk
    rw [e, e, e, e, e, e]
    rcases (show i = 0 ∨ i = 1 ∨ i = 2 by omega) with rfl | rfl | rfl
    · exact ⟨a0, a1, a2⟩
    · exact ⟨a3, a4, a5⟩
    · exact ⟨a6, a7, a8⟩
  · intro i k hi hk
    conv => lhs; unfold mv
    rw [e, e]
    rcases (show i = 0 ∨ i = 1 ∨ i = 2 by omega) with rfl | rfl | rfl <;> rcases (show k = 0 ∨ k = 1 ∨ k = 2 by omega) with rfl | rfl | rfl
    · exact b0
    · exact b1
    · exact b2
    · exact b3
    · exact b4
    · exact b5
    · exact b6
    · exact b7
    · exact b8
theorem q_fl (M : Nat → Int) (i k : Nat) (hi : i < 3) (hk : k < 3) : mv (fpP M) i k = mv M k i := by
  unfold mv fpP
  rw [show (i * 6 + k * 2) % 6 / 2 * 6 + (i * 6 + k * 2) / 6 * 2 + (i * 6 + k * 2) % 2 = k * 6 + i * 2 by omega, show (i * 6 + k * 2 + 1) % 6 / 2 * 6 + (i * 6 + k * 2 + 1) / 6 * 2 + (i * 6 + k * 2 + 1) % 2 = k * 6 + i * 2 + 1 by omega]
theorem q_de {M : Nat → Int} (hM : okM M) (h : deE M = 0) : okF (deN M) (deD M) = true ∧ qv (deN M) (deD M) = mv M 0 0 * (mv M 1 1 * mv M 2 2 + -mv M 1 2 * mv M 2 1) + mv M 0 1 * (mv M 1 2 * mv M 2 0 + -mv M 1 0 * mv M 2 2) + mv M 0 2 * (mv M 1 0 * mv M 2 1 + -mv M 1 1 * mv M 2 0) := by
  obtain ⟨u1, u2, u3⟩ := okM_row M hM
  unfold deE at h
  unfold deN deD
  by_cases c : deC M = 0
  · rw [if_pos c] at h
    rw [if_pos c, if_pos c]
    have ok := x_ok _ _ _ _ _ _ _ _ _ _ _ _ u2 u3 c
    obtain ⟨e1, e2, e3⟩ := fsI_zero c
    obtain ⟨p1, p2, p3⟩ := okV_in u2
    obtain ⟨r1, r2, r3⟩ := okV_in u3
    have t1 := (q_tw p2 r3 (by rw [okF_neg1]; exact p3) r2 e1).2
    have t2 := (q_tw p3 r1 (by rw [okF_neg1]; exact p1) r3 e2).2
    have t3 := (q_tw p1 r2 (by rw [okF_neg1]; exact p2) r1 e3).2
    obtain ⟨a, b⟩ := q_do u1 ok h
    rw [t1, t2, t3, q_neg, q_neg, q_neg] at b
    exact ⟨a, b⟩
  · rw [if_neg c] at h; exact absurd h c
theorem okM_un : okM unP := by decide
theorem q_un (i k : Nat) (hi : i < 3) (hk : k < 3) : mv unP i k = if i = k then 1 else 0 := by
  rcases (show i = 0 ∨ i = 1 ∨ i = 2 by omega) with rfl | rfl | rfl <;> rcases (show k = 0 ∨ k = 1 ∨ k = 2 by omega) with rfl | rfl | rfl <;> decide +kernel
/-- A rotation, by its values. -/
def Rot (M : Nat → Int) : Prop := (∀ i k, i < 3 → k < 3 → mv M i 0 * mv M k 0 + mv M i 1 * mv M k 1 + mv M i 2 * mv M k 2 = if i = k then 1 else 0) ∧
  mv M 0 0 * (mv M 1 1 * mv M 2 2 + -mv M 1 2 * mv M 2 1) + mv M 0 1 * (mv M 1 2 * mv M 2 0 + -mv M 1 0 * mv M 2 2) + mv M 0 2 * (mv M 1 0 * mv M 2 1 + -mv M 1 1 * mv M 2 0) = 1
theorem q_is {M : Nat → Int} (hM : okM M) (h : isE M = 0) (r : Rot M) : isB M = true := by
  rw [isE, if_pos hM] at h
  by_cases z : feI (pE9 M (fpP M)) 9 = 0
  · rw [if_pos z] at h
    have hF := (okM_flip hM).1
    have hp : pmE M (fpP M) = 0 := by rw [pmE, if_pos ⟨hM, hF⟩]; exact z
    obtain ⟨a, b⟩ := q_pm hM hF hp
    obtain ⟨d1, d2⟩ := q_de hM h
    have e : ∀ o, pmR M (fpP M) o = prR (pE9 M (fpP M)) (pL M (fpP M)) o := fun o => if_pos ⟨hM, hF⟩
    have mb : matB (prR (pE9 M (fpP M)) (pL M (fpP M))) unP = true := by
      rw [matB_iff]
      intro o ho
      rw [← e]
      refine mat_ext a okM_un (fun i k hi hk => ?_) o ho
      rw [b i k hi hk, q_fl M 0 k (by omega) hk, q_fl M 1 k (by omega) hk, q_fl M 2 k (by omega) hk, q_un i k hi hk]
      exact r.1 i k hi hk
    obtain ⟨x, y⟩ := q_inj d1 (show okF 1 1 = true by decide) (by rw [d2, q_11]; exact r.2)
    unfold isB
    rw [mb, decide_eq_true ⟨hM, z, h, x, y⟩]
    rfl
  · rw [if_neg z] at h; exact absurd h z
/-- The elements of a turn. -/
def rotV (a : Nat) (c s : Rat) (i k : Nat) : Rat := if i = a ∨ k = a then (if i = k then 1 else 0) else if i = k then c else if i = (a + 1) % 3 then -s else s
theorem q_tu (a : Nat) (c1 c2 s1 s2 : Int) (ha : a < 3) (oc : okF c1 c2 = true) (os : okF s1 s2 = true) : okM (tuN a c1 c2 s1 s2) ∧ ∀ i k, i < 3 → k < 3 → mv (tuN a c1 c2 s1 s2) i k = rotV a (qv c1 c2) (qv s1 s2) i k := by
  have on : okF (-s1) s2 = true := by rw [okF_neg1]; exact os
  have z1 : okF 0 1 = true := by decide
  have z2 : okF 1 1 = true := by decide
  have n := q_neg s1 s2
  constructor
  · intro i hi
    rcases (show a = 0 ∨ a = 1 ∨ a = 2 by omega) with rfl | rfl | rfl <;> rcases (show i = 0 ∨ i = 1 ∨ i = 2 by omega) with rfl | rfl | rfl
    · exact ⟨z2, z1, z1⟩
    · exact ⟨z1, oc, on⟩
    · exact ⟨z1, os, oc⟩
    · exact ⟨oc, z1, os⟩
    · exact ⟨z1, z2, z1⟩
    · exact ⟨on, z1, oc⟩
    · exact ⟨oc, on, z1⟩
    · exact ⟨os, oc, z1⟩
    · exact ⟨z1, z1, z2⟩
  · intro i k hi hk
    rcases (show a = 0 ∨ a = 1 ∨ a = 2 by omega) with rfl | rfl | rfl <;> rcases (show i = 0 ∨ i = 1 ∨ i = 2 by omega) with rfl | rfl | rfl <;> rcases (show k = 0 ∨ k = 1 ∨ k = 2 by omega) with rfl | rfl | rfl <;> first | exact q_11 | exact q_01 | exact n | rfl
theorem q_tm {axis n d : Int} (o : okF n d = true) (ha : ¬ (axis < 0 ∨ 2 < axis)) (h : pr_E n d = 0) : ∃ c s : Rat, c * c + s * s = 1 ∧ c * (1 + qv n d * qv n d) = 1 - qv n d * qv n d ∧ s * (1 + qv n d * qv n d) = 2 * qv n d ∧ 1 + qv n d * qv n d ≠ 0 ∧ okM (tmR axis n d) ∧
    ∀ i k, i < 3 → k < 3 → mv (tmR axis n d) i k = rotV axis.toNat c s i k := by
  rw [(tm_ok axis n d o ha h).1]
  have ⟨m, l, hh, ce, me, se⟩ : muE n d n d = 0 ∧ l_E n d = 0 ∧ h_E n d = 0 ∧ c_E n d = 0 ∧ muE n d 2 1 = 0 ∧ s_E n d = 0 := by
    unfold pr_E at h
    by_cases q : fsI (muE n d n d) (l_E n d) (h_E n d) = 0
    · rw [if_pos q] at h
      obtain ⟨a, b, c⟩ := fsI_zero q
      obtain ⟨e, f, g⟩ := fsI_zero h
      exact ⟨a, b, c, e, f, g⟩
    · rw [if_neg q] at h; exact absurd h q
  have o1 : okF 1 1 = true := by decide
  have o2 : okF 2 1 = true := by decide
  obtain ⟨a1, b1⟩ := q_mu o o m
  obtain ⟨a2, b2⟩ := q_ad o1 (show okF (-(muN n d n d)) (muD n d n d) = true by rw [okF_neg1]; exact a1) l
  obtain ⟨a3, b3⟩ := q_ad o1 a1 hh
  obtain ⟨a4, b4⟩ := q_mu o o2 me
  obtain ⟨c1, c2, c3⟩ := q_dv a2 a3 ce
  obtain ⟨s1, s2, s3⟩ := q_dv a4 a3 se
  have d1 := den_pos a3
  have hz : qv (h_N n d) (h_D n d) ≠ 0 := fun k => s1 (by
    rw [← q_01] at k
    have := q_eq' (show h_D n d ≠ 0 by unfold h_D; omega) (by omega) k
    unfold h_N at this; omega)
  have b3' : qv (h_N n d) (h_D n d) = 1 + qv n d * qv n d := by unfold h_N h_D; rw [b3, q_11, b1]
  have b2' : qv (l_N n d) (l_D n d) = 1 - qv n d * qv n d := by unfold l_N l_D; rw [b2, q_11, q_neg, b1]; grind
  have c3' : qv (c_N n d) (c_D n d) * qv (h_N n d) (h_D n d) = qv (l_N n d) (l_D n d) := c3
  have s3' : qv (s_N n d) (s_D n d) * qv (h_N n d) (h_D n d) = qv (muN n d 2 1) (muD n d 2 1) := s3
  rw [b3'] at hz
  rw [b3', b2'] at c3'
  rw [b3', b4, q_21] at s3'
  obtain ⟨t1, t2⟩ := q_tu axis.toNat (c_N n d) (c_D n d) (s_N n d) (s_D n d) (by omega) c2 s2
  refine ⟨qv (c_N n d) (c_D n d), qv (s_N n d) (s_D n d), ?_, c3', by rw [s3']; grind, hz, t1, t2⟩
  generalize qv (c_N n d) (c_D n d) = c at *
  generalize qv (s_N n d) (s_D n d) = s at *
  generalize qv n d = t at *
  clear b2' b3' t1 t2
  grind
theorem rot_tm {M : Nat → Int} {a : Nat} {c s : Rat} (ha : a < 3) (h : c * c + s * s = 1) (hv : ∀ i k, i < 3 → k < 3 → mv M i k = rotV a c s i k) : Rot M := by
  have v := fun i k => hv i k
  constructor
  · intro i k hi hk
    rw [hv i 0 hi (by omega), hv i 1 hi (by omega), hv i 2 hi (by omega), hv k 0 hk (by omega), hv k 1 hk (by omega), hv k 2 hk (by omega)]
    rcases (show a = 0 ∨ a = 1 ∨ a = 2 by omega) with rfl | rfl | rfl <;> rcases (show i = 0 ∨ i = 1 ∨ i = 2 by omega) with rfl | rfl | rfl <;> rcases (show k = 0 ∨ k = 1 ∨ k = 2 by omega) with rfl | rfl | rfl <;> simp [rotV] <;> grind
  · rw [hv 0 0, hv 0 1, hv 0 2, hv 1 0, hv 1 1, hv 1 2, hv 2 0, hv 2 1, hv 2 2] <;> try omega
    rcases (show a = 0 ∨ a = 1 ∨ a = 2 by omega) with rfl | rfl | rfl <;> simp [rotV] <;> grind
end Go.Proofs.Ytdolfdmgdknboaa
