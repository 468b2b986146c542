/-
  Along vectors, in numbers (no walk but the contract of Along).
-/
import Derived.Test.YtmjbeplcabomdaaPb
import Derived.Test.YtmjbeplcabomdaaQd
import Derived.Test.YtmjbeplcabomdaaFff
namespace Go.Proofs.Ytmjbeplcabomdaa
open Go.RowKit
set_option linter.unusedVariables false
set_option linter.unusedSimpArgs false
theorem sa_out {a b c d : Int} (h : saE a b c d = 0) : saL a b c d = a + c ∧ saH a b c d = b + d := by
  unfold saE at h
  by_cases hb : bV a b c d = true
  · rw [if_pos hb] at h
    obtain ⟨e1, e2, _⟩ := md_out h
    rw [saL, saH, if_pos hb, if_pos hb, e1, e2]
    exact ⟨rfl, rfl⟩
  · rw [if_neg hb] at h; omega
theorem su_out {a b c d l h : Int} {r : List (Int × Int × Int × Int)} (e : (suR ((a, b, c, d) :: r) l h).2.2 = 0) : smE a b c d = 0 ∧ suR ((a, b, c, d) :: r) l h = suR r (l + smL a b c d) (h + smH a b c d) := by
  rw [suR] at e
  by_cases h1 : smE a b c d = 0
  · rw [if_pos h1] at e
    by_cases h2 : saE l h (smL a b c d) (smH a b c d) = 0
    · obtain ⟨e1, e2⟩ := sa_out h2
      exact ⟨h1, by rw [suR, if_pos h1, if_pos h2, e1, e2]⟩
    · rw [if_neg h2] at e; exact absurd e h2
  · rw [if_neg h1] at e; exact absurd e h1
theorem su_out3 {a1 b1 c1 d1 a2 b2 c2 d2 a3 b3 c3 d3 : Int} (e : (suR [(a1, b1, c1, d1), (a2, b2, c2, d2), (a3, b3, c3, d3)] 0 0).2.2 = 0) :
    (smE a1 b1 c1 d1 = 0 ∧ smE a2 b2 c2 d2 = 0 ∧ smE a3 b3 c3 d3 = 0) ∧ suR [(a1, b1, c1, d1), (a2, b2, c2, d2), (a3, b3, c3, d3)] 0 0 = (smL a1 b1 c1 d1 + smL a2 b2 c2 d2 + smL a3 b3 c3 d3, smH a1 b1 c1 d1 + smH a2 b2 c2 d2 + smH a3 b3 c3 d3, 0) := by
  obtain ⟨e1, s1⟩ := su_out e
  rw [s1] at e
  obtain ⟨e2, s2⟩ := su_out e
  rw [s2] at e
  obtain ⟨e3, s3⟩ := su_out e
  refine ⟨⟨e1, e2, e3⟩, ?_⟩
  rw [s1, s2, s3, suR, Int.zero_add, Int.zero_add]
/-- Along a vector: its enclosure and its error. -/
def alQ (a b c d e f g h i j k l : Int) : Int × Int × Int := if er3 (ovE g h) (ovE i j) (ovE k l) = 0 then suR [(a, b, ovL g h, ovH g h), (c, d, ovL i j, ovH i j), (e, f, ovL k l, ovH k l)] 0 0 else (0, 0, er3 (ovE g h) (ovE i j) (ovE k l))
theorem track_AlongV (a b c d e f g h i j k l : Int) (va : spV a b = true ∧ spV c d = true ∧ spV e f = true) (p1 : okC g h) (p2 : okC i j) (p3 : okC k l) (hv : okV g h i j k l = true) (w : World) :
    Calls Try.prog 13 #[.agg #[.int .i64 a, .int .i64 b, .int .i64 c, .int .i64 d, .int .i64 e, .int .i64 f], .agg #[.int .i64 g, .int .i64 h, .int .i64 i, .int .i64 j, .int .i64 k, .int .i64 l]] w fun r w' => r = .returned (.tuple #[.agg #[.int .i64 ((alQ a b c d e f g h i j k l).1), .int .i64 ((alQ a b c d e f g h i j k l).2.1)], .int .i64 (alQ a b c d e f g h i j k l).2.2]) ∧ Below w.heap.size w w' := by
  have A2 := fun w => vec_Check g h i j k l p1 p2 p3 w
  rw [chV, if_pos hv] at A2
  have A3 := fun w => track_enclose g h i j k l p1.1 p1.2.1 p1.2.2.1 p1.2.2.2 p2.1 p2.2.1 p2.2.2.1 p2.2.2.2 p3.1 p3.2.1 p3.2.2.1 p3.2.2.2 w
  unfold alQ
  by_cases he : er3 (ovE g h) (ovE i j) (ovE k l) = 0
  · rw [if_pos he]
    rw [he, pz0, pz0, pz0, pz0, pz0, pz0] at A3
    exact track_Along_0 a b c d e f g h i j k l _ _ _ _ _ _ 0 _ _ _ va A2 A3 rfl w
  · rw [if_neg he]
    exact track_Along_3 a b c d e f g h i j k l _ _ _ _ _ _ _ 0 0 0 va A2 A3 he w
theorem prod_in {a b c d x g h : Int} (hh : 1 ≤ h) (e : smE a b c d = 0) (x1 : a ≤ x) (x2 : x ≤ b) (y1 : c * h ≤ g * 1000000) (y2 : g * 1000000 ≤ d * h) : smL a b c d * h ≤ x * g ∧ x * g ≤ smH a b c d * h := by
  have hb := (sm_valid e).2
  rw [smE, if_pos hb] at e
  obtain ⟨e1, e2, _⟩ := md_out e
  rw [smL, smH, if_pos hb, if_pos hb, e1, e2]
  obtain ⟨n1, n2⟩ := mul_ends x1 x2 y1 y2
  have s1 : a * (c * h) = a * c * h := by grind
  have s2 : a * (d * h) = a * d * h := by grind
  have s3 : b * (c * h) = b * c * h := by grind
  have s4 : b * (d * h) = b * d * h := by grind
  rw [s1, s2, s3, s4, mi4_mul (by omega)] at n1
  rw [s1, s2, s3, s4, ma4_mul (by omega)] at n2
  have t1 : pL a b c d * 1000000 ≤ mi4 (a * c) (a * d) (b * c) (b * d) := by unfold pL mn4; omega
  have t2 : ma4 (a * c) (a * d) (b * c) (b * d) ≤ pH a b c d * 1000000 := by unfold pH mx4; omega
  have v1 := Int.mul_le_mul_of_nonneg_right t1 (show 0 ≤ h by omega)
  have v2 := Int.mul_le_mul_of_nonneg_right t2 (show 0 ≤ h by omega)
  have w1 : pL a b c d * 1000000 * h = pL a b c d * h * 1000000 := by grind
  have w2 : pH a b c d * 1000000 * h = pH a b c d * h * 1000000 := by grind
  have w3 : x * (g * 1000000) = x * g * 1000000 := by grind
  omega
theorem comp_le {p q r h h' D g g' N x : Int} (h1 : 0 < h) (h2 : 0 < h') (h3 : 0 < D) (a1 : p * h ≤ x * g) (a2 : q * h' ≤ x * g') (a3 : x * N ≤ r * D) (e : N * (h * h') = (g * h' + g' * h) * D) : p + q ≤ r := by
  have b1 := Int.mul_le_mul_of_nonneg_right a1 (show 0 ≤ h' * D by exact Int.mul_nonneg (by omega) (by omega))
  have b2 := Int.mul_le_mul_of_nonneg_right a2 (show 0 ≤ h * D by exact Int.mul_nonneg (by omega) (by omega))
  have b3 := Int.mul_le_mul_of_nonneg_right a3 (show 0 ≤ h * h' by exact Int.mul_nonneg (by omega) (by omega))
  have hp : 0 < h * h' * D := Int.mul_pos (Int.mul_pos h1 h2) h3
  refine Int.le_of_mul_le_mul_right ?_ hp
  have c1 : (p + q) * (h * h' * D) = p * h * (h' * D) + q * h' * (h * D) := by grind
  have c2 : x * g * (h' * D) + x * g' * (h * D) = x * N * (h * h') := by
    have : x * N * (h * h') = x * (N * (h * h')) := by grind
    rw [this, e]; grind
  have c3 : r * D * (h * h') = r * (h * h' * D) := by grind
  omega
theorem comp_ge {p q r h h' D g g' N x : Int} (h1 : 0 < h) (h2 : 0 < h') (h3 : 0 < D) (a1 : x * g ≤ p * h) (a2 : x * g' ≤ q * h') (a3 : r * D ≤ x * N) (e : N * (h * h') = (g * h' + g' * h) * D) : r ≤ p + q := by
  have := comp_le (p := -p) (q := -q) (r := -r) (x := -x) h1 h2 h3 (by grind) (by grind) (by grind) e
  omega
theorem er3_out {e f g : Int} (h : er3 e f g = 0) : e = 0 ∧ f = 0 ∧ g = 0 := by
  unfold er3 at h
  split at h
  · split at h
    · exact ⟨by assumption, by assumption, h⟩
    · exact absurd h (by assumption)
  · exact absurd h (by assumption)
theorem ov_out {n d : Int} (h : ovE n d = 0) : okF n d = true ∧ ovL n d * d ≤ n * 1000000 ∧ n * 1000000 ≤ ovH n d * d := by
  by_cases ho : okF n d = true
  · have hl := (of_least ho).1
    rw [ovE, if_pos ho] at h
    obtain ⟨e1, e2, _⟩ := md_out h
    rw [ovL, ovH, if_pos ho, if_pos ho, e1, e2]
    have := inB_iff.1 hl
    exact ⟨ho, this.1, this.2⟩
  · rw [ovE, if_neg ho] at h; omega
/-- One coordinate of a sum. -/
theorem coord {a b g h g' h' : Int} (hx : a ≤ b) (o1 : ovE g h = 0) (o2 : ovE g' h' = 0) (he : adE g h g' h' = 0) (o3 : ovE (adN g h g' h') (adD g h g' h') = 0)
    (e1 : smE a b (ovL g h) (ovH g h) = 0) (e2 : smE a b (ovL g' h') (ovH g' h') = 0) (e3 : smE a b (ovL (adN g h g' h') (adD g h g' h')) (ovH (adN g h g' h') (adD g h g' h')) = 0) :
    smL a b (ovL g h) (ovH g h) + smL a b (ovL g' h') (ovH g' h') ≤ smH a b (ovL (adN g h g' h') (adD g h g' h')) (ovH (adN g h g' h') (adD g h g' h')) ∧
    smL a b (ovL (adN g h g' h') (adD g h g' h')) (ovH (adN g h g' h') (adD g h g' h')) ≤ smH a b (ovL g h) (ovH g h) + smH a b (ovL g' h') (ovH g' h') := by
  obtain ⟨k1, l1, u1⟩ := ov_out o1
  obtain ⟨k2, l2, u2⟩ := ov_out o2
  obtain ⟨k3, l3, u3⟩ := ov_out o3
  obtain ⟨d1, _⟩ := okF_out k1
  obtain ⟨d2, _⟩ := okF_out k2
  obtain ⟨d3, _⟩ := okF_out k3
  have P := prod_in (x := a) d1 e1 (Int.le_refl _) hx l1 u1
  have Q := prod_in (x := a) d2 e2 (Int.le_refl _) hx l2 u2
  have R := prod_in (x := a) d3 e3 (Int.le_refl _) hx l3 u3
  have hk : okF g h = true ∧ okF g' h' = true := ⟨k1, k2⟩
  have key : adN g h g' h' * (h * h') = (g * h' + g' * h) * adD g h g' h' := by
    rw [adE, if_pos hk] at he
    rw [adN, adD, if_pos hk, if_pos hk]
    exact (mk_of _ _ (Int.mul_pos (by omega) (by omega)) he).2
  exact ⟨comp_le (by omega) (by omega) (by omega) P.1 Q.1 R.2 key, comp_ge (by omega) (by omega) (by omega) P.2 Q.2 R.1 key⟩
theorem al_out {a b c d e f g h i j k l : Int} (he : (alQ a b c d e f g h i j k l).2.2 = 0) : (ovE g h = 0 ∧ ovE i j = 0 ∧ ovE k l = 0) ∧ (smE a b (ovL g h) (ovH g h) = 0 ∧ smE c d (ovL i j) (ovH i j) = 0 ∧ smE e f (ovL k l) (ovH k l) = 0) ∧
    (alQ a b c d e f g h i j k l).1 = smL a b (ovL g h) (ovH g h) + smL c d (ovL i j) (ovH i j) + smL e f (ovL k l) (ovH k l) ∧ (alQ a b c d e f g h i j k l).2.1 = smH a b (ovL g h) (ovH g h) + smH c d (ovL i j) (ovH i j) + smH e f (ovL k l) (ovH k l) := by
  unfold alQ at *
  by_cases h0 : er3 (ovE g h) (ovE i j) (ovE k l) = 0
  · rw [if_pos h0] at *
    obtain ⟨es, v⟩ := su_out3 he
    rw [v]
    exact ⟨er3_out h0, es, rfl, rfl⟩
  · rw [if_neg h0] at he; exact absurd he h0
/-- Along a sum of two vectors, and the sum along both. -/
theorem along_common {a b c d e f g h i j k l g' h' i' j' k' l' : Int} (x1 : a ≤ b) (x2 : c ≤ d) (x3 : e ≤ f) (hg : adE g h g' h' = 0 ∧ adE i j i' j' = 0 ∧ adE k l k' l' = 0)
    (e1 : (alQ a b c d e f g h i j k l).2.2 = 0) (e2 : (alQ a b c d e f g' h' i' j' k' l').2.2 = 0)
    (e3 : (alQ a b c d e f (adN g h g' h') (adD g h g' h') (adN i j i' j') (adD i j i' j') (adN k l k' l') (adD k l k' l')).2.2 = 0) :
    (alQ a b c d e f g h i j k l).1 + (alQ a b c d e f g' h' i' j' k' l').1 ≤ (alQ a b c d e f (adN g h g' h') (adD g h g' h') (adN i j i' j') (adD i j i' j') (adN k l k' l') (adD k l k' l')).2.1 ∧
    (alQ a b c d e f (adN g h g' h') (adD g h g' h') (adN i j i' j') (adD i j i' j') (adN k l k' l') (adD k l k' l')).1 ≤ (alQ a b c d e f g h i j k l).2.1 + (alQ a b c d e f g' h' i' j' k' l').2.1 := by
  obtain ⟨⟨o1, o2, o3⟩, ⟨s1, s2, s3⟩, L1, H1⟩ := al_out e1
  obtain ⟨⟨p1, p2, p3⟩, ⟨t1, t2, t3⟩, L2, H2⟩ := al_out e2
  obtain ⟨⟨q1, q2, q3⟩, ⟨u1, u2, u3⟩, L3, H3⟩ := al_out e3
  rw [L1, H1, L2, H2, L3, H3]
  have c1 := coord x1 o1 p1 hg.1 q1 s1 t1 u1
  have c2 := coord x2 o2 p2 hg.2.1 q2 s2 t2 u2
  have c3 := coord x3 o3 p3 hg.2.2 q3 s3 t3 u3
  clear L1 H1 L2 H2 L3 H3 o1 o2 o3 p1 p2 p3 q1 q2 q3 s1 s2 s3 t1 t2 t3 u1 u2 u3 e1 e2 e3
  omega
/-- Along the axis Z. -/
theorem along_z {a b c d e f : Int} (u1 : unitS a b) (u2 : unitS c d) (u3 : unitS e f) : alQ a b c d e f 0 1 0 1 1 1 = (e, f, 0) := by
  have o0 : ovE 0 1 = 0 ∧ ovL 0 1 = 0 ∧ ovH 0 1 = 0 := by decide +kernel
  have o1 : ovE 1 1 = 0 ∧ ovL 1 1 = 1000000 ∧ ovH 1 1 = 1000000 := by decide +kernel
  unfold alQ
  rw [o0.1, o1.1, o0.2.1, o0.2.2, o1.2.1, o1.2.2, show er3 0 0 0 = 0 from rfl, if_pos rfl]
  have z : ∀ {x y : Int}, unitS x y → smE x y 0 0 = 0 ∧ smL x y 0 0 = 0 ∧ smH x y 0 0 = 0 := by
    intro x y h
    have m := (mul_unit h (show unitS 0 0 by unfold unitS; omega))
    have hb := (sm_valid m.1).2
    have he := m.1
    rw [smE, if_pos hb] at he
    obtain ⟨q1, q2, _⟩ := md_out he
    refine ⟨m.1, ?_, ?_⟩
    · rw [smL, if_pos hb, q1]; unfold pL mn4 mi4; simp
    · rw [smH, if_pos hb, q2]; unfold pH mx4 ma4; simp
  have o : smE e f 1000000 1000000 = 0 ∧ smL e f 1000000 1000000 = e ∧ smH e f 1000000 1000000 = f := by
    have m := (mul_unit u3 (show unitS 1000000 1000000 by unfold unitS; omega))
    have hb := (sm_valid m.1).2
    have he := m.1
    rw [smE, if_pos hb] at he
    obtain ⟨q1, q2, _⟩ := md_out he
    have hle := u3.1
    refine ⟨m.1, ?_, ?_⟩
    · rw [smL, if_pos hb, q1]; unfold pL mn4 mi4; omega
    · rw [smH, if_pos hb, q2]; unfold pH mx4 ma4; omega
  obtain ⟨z1, z2, z3⟩ := z u1
  obtain ⟨z4, z5, z6⟩ := z u2
  obtain ⟨z7, z8, z9⟩ := o
  rw [su_three z1 z4 z7 (by rw [z2, z3]; unfold unitS; omega) (by rw [z5, z6]; unfold unitS; omega) (by rw [z8, z9]; exact u3), z2, z3, z5, z6, z8, z9]
  simp
end Go.Proofs.Ytmjbeplcabomdaa
