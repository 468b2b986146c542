/-
  Small fractions: bounds of what the operations return; turns by small parameters are in range.
-/
import Derived.Test.YtdolfdmgdknboaaKu
import Derived.Test.YtdolfdmgdknboaaWq
namespace Go.Proofs.Ytdolfdmgdknboaa
open Go.RowKit
set_option linter.unusedVariables false
set_option linter.unusedSimpArgs false

/-- A valid fraction whose numerator is at most A, whose denominator is at most B. -/
def SF (n d A B : Int) : Prop := okF n d = true ∧ -A ≤ n ∧ n ≤ A ∧ d ≤ B
theorem sf_up {n d A B C D : Int} (h : SF n d A B) (h1 : A ≤ C) (h2 : B ≤ D) : SF n d C D := by
  obtain ⟨a, b, c, e⟩ := h; exact ⟨a, by omega, by omega, by omega⟩
theorem sf_nn {n d A B : Int} (h : SF n d A B) : 0 ≤ A ∧ 1 ≤ B ∧ 1 ≤ d := by
  obtain ⟨a, b, c, e⟩ := h
  obtain ⟨x, _⟩ := okF_out a
  omega
theorem sf_neg {n d A B : Int} (h : SF n d A B) : SF (-n) d A B := by
  obtain ⟨a, b, c, e⟩ := h; exact ⟨by rw [okF_neg1]; exact a, by omega, by omega, e⟩
theorem sf_01 : SF 0 1 1 1 := by unfold SF; decide
theorem sf_11 : SF 1 1 1 1 := by unfold SF; decide
theorem bd_mul {x y A C : Int} (h1 : -A ≤ x) (h2 : x ≤ A) (h3 : -C ≤ y) (h4 : y ≤ C) : -(A * C) ≤ x * y ∧ x * y ≤ A * C := by
  have a : (x * y).natAbs ≤ (A * C).natAbs := by
    rw [Int.natAbs_mul, Int.natAbs_mul]; exact Nat.mul_le_mul (by omega) (by omega)
  have p : 0 ≤ A * C := Int.mul_nonneg (by omega) (by omega)
  omega
theorem mul_up {x y B D : Int} (h0 : 0 ≤ x) (h1 : x ≤ B) (h2 : 0 ≤ y) (h3 : y ≤ D) : x * y ≤ B * D := Int.mul_le_mul h1 h3 h2 (by omega)
theorem rN_bd (N D A : Int) (hD : 0 < D) (h1 : -A ≤ N) (h2 : N ≤ A) : -A ≤ rN N D ∧ rN N D ≤ A := by
  have hg : 0 < gcdI N D := gcdI_pos N D hD
  have := absI_div N _ hg (gcdI_dvd_left N D)
  have k : absI N / gcdI N D ≤ absI N := Int.ediv_le_self _ (absI_nn N)
  unfold rN
  rw [← this] at k
  unfold absI at k
  omega
theorem rD_bd (N D : Int) (hD : 0 < D) : rD N D ≤ D := Int.ediv_le_self _ (by omega)
/-- Numbers in range, made lowest. -/
theorem sf_mk {N D A B : Int} (hD : 0 < D) (h1 : -A ≤ N) (h2 : N ≤ A) (h3 : D ≤ B) (hA : A ≤ 1000000000000000000) (hB : B ≤ 1000000000000000000) : mkE N D = 0 ∧ SF (mkN N D) (mkD N D) A B := by
  have e : mkE N D = 0 := mkE_small N D hD (by unfold absI; omega) (by omega)
  obtain ⟨o, _⟩ := mk_of N D hD e
  have b := rN_bd N D A hD h1 h2
  have c := rD_bd N D hD
  refine ⟨e, o, ?_⟩
  unfold mkE at e
  split at e
  · rename_i k
    unfold mkN mkD
    rw [if_pos k, if_pos k]
    omega
  · exact absurd e (by omega)
theorem sf_mu {a b c d A B C D : Int} (h : SF a b A B) (k : SF c d C D) (hA : A * C ≤ 1000000000000000000) (hB : B * D ≤ 1000000000000000000) : muE a b c d = 0 ∧ SF (muN a b c d) (muD a b c d) (A * C) (B * D) := by
  have n1 := sf_nn h
  have n2 := sf_nn k
  obtain ⟨o1, x1, x2, x3⟩ := h
  obtain ⟨o2, y1, y2, y3⟩ := k
  have m := bd_mul x1 x2 y1 y2
  rw [muE, muN, muD, if_pos ⟨o1, o2⟩, if_pos ⟨o1, o2⟩, if_pos ⟨o1, o2⟩]
  exact sf_mk (Int.mul_pos (by omega) (by omega)) m.1 m.2 (mul_up (by omega) x3 (by omega) y3) hA hB
theorem sf_ad {a b c d A B C D : Int} (h : SF a b A B) (k : SF c d C D) (hA : A * D + C * B ≤ 1000000000000000000) (hB : B * D ≤ 1000000000000000000) : adE a b c d = 0 ∧ SF (adN a b c d) (adD a b c d) (A * D + C * B) (B * D) := by
  have n1 := sf_nn h
  have n2 := sf_nn k
  obtain ⟨o1, x1, x2, x3⟩ := h
  obtain ⟨o2, y1, y2, y3⟩ := k
  have m := bd_mul x1 x2 (show -D ≤ d by omega) y3
  have m' := bd_mul y1 y2 (show -B ≤ b by omega) x3
  rw [adE, adN, adD, if_pos ⟨o1, o2⟩, if_pos ⟨o1, o2⟩, if_pos ⟨o1, o2⟩]
  exact sf_mk (Int.mul_pos (by omega) (by omega)) (by omega) (by omega) (mul_up (by omega) x3 (by omega) y3) hA hB
theorem sf_dv {a b c d A B C D : Int} (h : SF a b A B) (k : SF c d C D) (hc : c ≠ 0) (hA : A * D ≤ 1000000000000000000) (hB : B * C ≤ 1000000000000000000) : dvE a b c d = 0 ∧ SF (dvN a b c d) (dvD a b c d) (A * D) (B * C) := by
  have n1 := sf_nn h
  have n2 := sf_nn k
  obtain ⟨o1, x1, x2, x3⟩ := h
  obtain ⟨o2, y1, y2, y3⟩ := k
  have f : -D ≤ flN c d ∧ flN c d ≤ D := by unfold flN; split <;> omega
  have g : 0 < absI c ∧ absI c ≤ C := by unfold absI; omega
  have m := bd_mul x1 x2 f.1 f.2
  have q : okF a b = true ∧ okF c d = true := ⟨o1, o2⟩
  rw [dvE, dvN, dvD, if_pos q, if_pos q, if_pos q, if_neg hc, if_neg hc, if_neg hc]
  exact sf_mk (Int.mul_pos (by omega) g.1) m.1 m.2 (mul_up (by omega) x3 (by omega) g.2) hA hB
theorem sf_tw {a b c d e f g h A B C D E F G H : Int} (h1 : SF a b A B) (h2 : SF c d C D) (h3 : SF e f E F) (h4 : SF g h G H)
    (k1 : A * C ≤ 1000000000000000000) (k2 : B * D ≤ 1000000000000000000) (k3 : E * G ≤ 1000000000000000000) (k4 : F * H ≤ 1000000000000000000)
    (k5 : A * C * (F * H) + E * G * (B * D) ≤ 1000000000000000000) (k6 : B * D * (F * H) ≤ 1000000000000000000) :
    twE a b c d e f g h = 0 ∧ SF (twN a b c d e f g h) (twD a b c d e f g h) (A * C * (F * H) + E * G * (B * D)) (B * D * (F * H)) := by
  obtain ⟨p1, p2⟩ := sf_mu h1 h2 k1 k2
  obtain ⟨r1, r2⟩ := sf_mu h3 h4 k3 k4
  have z : fsI (muE a b c d) (muE e f g h) 0 = 0 := by rw [p1, r1]; rfl
  rw [twE, twN, twD, if_pos z, if_pos z, if_pos z]
  exact sf_ad p2 r2 k5 k6
/-- The errors of valid products and sums: none, or out of range. -/
theorem mkE_01 (N D : Int) : mkE N D = 0 ∨ mkE N D = 16 := by unfold mkE; split; exact Or.inl rfl; exact Or.inr rfl
theorem mu_01 {a b c d : Int} (o1 : okF a b = true) (o2 : okF c d = true) : muE a b c d = 0 ∨ muE a b c d = 16 := by rw [muE, if_pos ⟨o1, o2⟩]; exact mkE_01 _ _
theorem ad_01 {a b c d : Int} (o1 : okF a b = true) (o2 : okF c d = true) : adE a b c d = 0 ∨ adE a b c d = 16 := by rw [adE, if_pos ⟨o1, o2⟩]; exact mkE_01 _ _
theorem tw_01 {a b c d e f g h : Int} (o1 : okF a b = true) (o2 : okF c d = true) (o3 : okF e f = true) (o4 : okF g h = true) : twE a b c d e f g h = 0 ∨ twE a b c d e f g h = 16 := by
  unfold twE
  by_cases q : fsI (muE a b c d) (muE e f g h) 0 = 0
  · rw [if_pos q]
    obtain ⟨m1, m2, _⟩ := fsI_zero q
    exact ad_01 (q_mu o1 o2 m1).1 (q_mu o3 o4 m2).1
  · rw [if_neg q]
    have h1 := mu_01 o1 o2
    have h2 := mu_01 o3 o4
    unfold fsI at q ⊢
    split <;> (try split) <;> simp_all
theorem do_01 {a b c d e f g h i j k l : Int} (o1 : okV a b c d e f = true) (o2 : okV g h i j k l = true) : doE a b c d e f g h i j k l = 0 ∨ doE a b c d e f g h i j k l = 16 := by
  obtain ⟨u1, u2, u3⟩ := okV_in o1
  obtain ⟨v1, v2, v3⟩ := okV_in o2
  unfold doE
  by_cases q : doF a b c d e f g h i j k l = 0
  · rw [if_pos q]
    obtain ⟨m1, m2, _⟩ := fsI_zero q
    exact ad_01 (q_tw u1 v1 u2 v2 m1).1 (q_mu u3 v3 m2).1
  · rw [if_neg q]
    have h1 := tw_01 u1 v1 u2 v2
    have h2 := mu_01 u3 v3
    unfold doF fsI at q ⊢
    split <;> (try split) <;> simp_all
theorem x_01 {a b c d e f g h i j k l : Int} (o1 : okV a b c d e f = true) (o2 : okV g h i j k l = true) : xE a b c d e f g h i j k l = 0 ∨ xE a b c d e f g h i j k l = 16 := by
  obtain ⟨u1, u2, u3⟩ := okV_in o1
  obtain ⟨v1, v2, v3⟩ := okV_in o2
  have t1 := tw_01 u2 v3 (show okF (-e) f = true by rw [okF_neg1]; exact u3) v2
  have t2 := tw_01 u3 v1 (show okF (-a) b = true by rw [okF_neg1]; exact u1) v3
  have t3 := tw_01 u1 v2 (show okF (-c) d = true by rw [okF_neg1]; exact u2) v1
  unfold xE fsI
  split <;> (try split) <;> simp_all
theorem de_01 {M : Nat → Int} (hM : okM M) : deE M = 0 ∨ deE M = 16 := by
  obtain ⟨u1, u2, u3⟩ := okM_row M hM
  unfold deE
  by_cases c : deC M = 0
  · rw [if_pos c]
    exact do_01 u1 (x_ok _ _ _ _ _ _ _ _ _ _ _ _ u2 u3 c)
  · rw [if_neg c]; exact x_01 u2 u3
theorem fe_01 {E : Nat → Int} : ∀ n, (∀ k, k < n → E k = 0 ∨ E k = 16) → feI E n = 0 ∨ feI E n = 16
  | 0, _ => Or.inl rfl
  | n + 1, h => by
    have := fe_01 n (fun k hk => h k (by omega))
    rw [feI]
    split
    · exact h n (by omega)
    · exact this
theorem p9_01 {M N : Nat → Int} (hM : okM M) (hN : okM N) : feI (pE9 M N) 9 = 0 ∨ feI (pE9 M N) 9 = 16 := by
  obtain ⟨u1, u2, u3⟩ := okM_row M hM
  obtain ⟨v1, v2, v3⟩ := (okM_flip hN).2
  refine fe_01 9 (fun k hk => ?_)
  rcases (show k = 0 ∨ k = 1 ∨ k = 2 ∨ k = 3 ∨ k = 4 ∨ k = 5 ∨ k = 6 ∨ k = 7 ∨ k = 8 by omega) with rfl | rfl | rfl | rfl | rfl | rfl | rfl | rfl | rfl
  · exact do_01 u1 v1
  · exact do_01 u1 v2
  · exact do_01 u1 v3
  · exact do_01 u2 v1
  · exact do_01 u2 v2
  · exact do_01 u2 v3
  · exact do_01 u3 v1
  · exact do_01 u3 v2
  · exact do_01 u3 v3
theorem is_01 {M : Nat → Int} (hM : okM M) : isE M = 0 ∨ isE M = 16 := by
  rw [isE, if_pos hM]
  split
  · exact de_01 hM
  · exact p9_01 hM (okM_flip hM).1
theorem q_sq (x : Rat) : 0 ≤ x * x := by
  rcases Rat.le_total (a := 0) (b := x) with h | h
  · exact Rat.mul_nonneg h h
  · have := Rat.mul_nonneg (a := -x) (b := -x) (by grind) (by grind)
    grind
/-- A turn by a small parameter is in range. -/
theorem sf_turn {n d : Int} (h : SF n d 800 800) : pr_E n d = 0 := by
  obtain ⟨m, mS⟩ := sf_mu h h (by omega) (by omega)
  obtain ⟨l, lS⟩ := sf_ad sf_11 (sf_neg mS) (by omega) (by omega)
  obtain ⟨hh, hS⟩ := sf_ad sf_11 mS (by omega) (by omega)
  obtain ⟨w, wS⟩ := sf_mu h (show SF 2 1 2 1 by unfold SF; decide) (by omega) (by omega)
  have o := h.1
  have hz : h_N n d ≠ 0 := by
    intro k
    have e := (q_ad sf_11.1 mS.1 hh).2
    rw [(q_mu o o m).2, q_11, show adN 1 1 (muN n d n d) (muD n d n d) = 0 from k, q_00] at e
    have := q_sq (qv n d)
    grind
  obtain ⟨c, cS⟩ := sf_dv lS hS hz (by omega) (by omega)
  obtain ⟨s, sS⟩ := sf_dv wS hS hz (by omega) (by omega)
  unfold pr_E
  rw [show fsI (muE n d n d) (l_E n d) (h_E n d) = 0 by unfold l_E h_E; rw [m, l, hh]; rfl, if_pos rfl]
  unfold c_E s_E
  rw [show dvE (l_N n d) (l_D n d) (h_N n d) (h_D n d) = 0 from c, w, show dvE (muN n d 2 1) (muD n d 2 1) (h_N n d) (h_D n d) = 0 from s]
  rfl
end Go.Proofs.Ytdolfdmgdknboaa
