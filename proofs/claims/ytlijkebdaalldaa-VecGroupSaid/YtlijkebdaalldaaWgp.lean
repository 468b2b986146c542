/-
  VecGroup, for all vectors, axes and parameters.
-/
import Derived.Test.YtlijkebdaalldaaKu
import Derived.Test.YtlijkebdaalldaaWkp
import Derived.Test.YtlijkebdaalldaaWgr
import Derived.Test.YtlijkebdaalldaaWrg
import Derived.Test.YtlijkebdaalldaaFxp
namespace Go.Proofs.Ytlijkebdaalldaa
open Go.RowKit
set_option linter.unusedVariables false
set_option linter.unusedSimpArgs false

theorem frac_MulC {a b c d : Int} (h : okC a b) (k : okC c d) (w : World) : Calls Try.prog 31 #[.agg #[.int .i64 a, .int .i64 b], .agg #[.int .i64 c, .int .i64 d]] w fun e w' => e = .returned (.tuple #[.agg #[.int .i64 (muN a b c d), .int .i64 (muD a b c d)], .int .i64 (muE a b c d)]) ∧ Below w.heap.size w w' :=
  frac_Mul a b c d h.1 h.2.1 h.2.2.1 h.2.2.2 k.1 k.2.1 k.2.2.1 k.2.2.2 w
theorem frac_SubC {a b c d : Int} (h : okC a b) (k : okC c d) (w : World) : Calls Try.prog 32 #[.agg #[.int .i64 a, .int .i64 b], .agg #[.int .i64 c, .int .i64 d]] w fun e w' => e = .returned (.tuple #[.agg #[.int .i64 (adN a b (-c) d), .int .i64 (adD a b (-c) d)], .int .i64 (adE a b (-c) d)]) ∧ Below w.heap.size w w' :=
  frac_Sub a b c d h.1 h.2.1 h.2.2.1 h.2.2.2 k.1 k.2.1 k.2.2.1 k.2.2.2 w
theorem frac_AddC {a b c d : Int} (h : okC a b) (k : okC c d) (w : World) : Calls Try.prog 33 #[.agg #[.int .i64 a, .int .i64 b], .agg #[.int .i64 c, .int .i64 d]] w fun e w' => e = .returned (.tuple #[.agg #[.int .i64 (adN a b c d), .int .i64 (adD a b c d)], .int .i64 (adE a b c d)]) ∧ Below w.heap.size w w' :=
  frac_Add a b c d h.1 h.2.1 h.2.2.1 h.2.2.2 k.1 k.2.1 k.2.2.1 k.2.2.2 w
theorem frac_DivC {a b c d : Int} (h : okC a b) (k : okC c d) (w : World) : Calls Try.prog 34 #[.agg #[.int .i64 a, .int .i64 b], .agg #[.int .i64 c, .int .i64 d]] w fun e w' => e = .returned (.tuple #[.agg #[.int .i64 (dvN a b c d), .int .i64 (dvD a b c d)], .int .i64 (dvE a b c d)]) ∧ Below w.heap.size w w' :=
  frac_Div a b c d h.1 h.2.1 h.2.2.1 h.2.2.2 k.1 k.2.1 k.2.2.1 k.2.2.2 w
theorem sf_okC {n d A B : Int} (h : SF n d A B) : okC n d := okC_of h.1
theorem sm_t {V W : Nat → Int} {n d : Int} (h : smL (ls V W n d)) (h1 : ¬ 20 < n) (h2 : ¬ n < -20) : SF n d 20 20 := ⟨(sm_vec h).2.2, by omega, by omega, (smF_sf (h 6 (by omega))).2.2.2⟩
/-- The parameter of the turn that is two turns about one axis. -/
theorem sum_par {n d p q r1 r2 : Int} (hs : SF n d 20 20) (ht : SF p q 20 20) (o : okF r1 r2 = true) (hd : 1 - qv n d * qv p q ≠ 0) (h : qv r1 r2 * (1 - qv n d * qv p q) = qv n d + qv p q) : SF r1 r2 800 800 := by
  have n1 := sf_nn hs
  have n2 := sf_nn ht
  obtain ⟨o1, x1, x2, x3⟩ := hs
  obtain ⟨o2, y1, y2, y3⟩ := ht
  have b1 := bd_mul x1 x2 (show -20 ≤ q by omega) y3
  have b2 := bd_mul y1 y2 (show -20 ≤ d by omega) x3
  have b3 := bd_mul x1 x2 y1 y2
  have b4 := mul_up (show 0 ≤ d by omega) x3 (show 0 ≤ q by omega) y3
  have b5 : 0 < d * q := Int.mul_pos (by omega) (by omega)
  have dn : (d : Rat) ≠ 0 := cast_ne (by omega)
  have qn : (q : Rat) ≠ 0 := cast_ne (by omega)
  have pr := den_pos o
  have rn : (r2 : Rat) ≠ 0 := cast_ne (by omega)
  rw [q_div n d, q_div p q] at h hd
  have e : ((r1 * (d * q - n * p) : Int) : Rat) = (((n * q + p * d) * r2 : Int) : Rat) := by
    rw [q_div r1 r2] at h
    simp only [Rat.intCast_add, Rat.intCast_sub, Rat.intCast_mul]
    generalize (n : Rat) = x at *
    generalize (d : Rat) = y at *
    generalize (p : Rat) = z at *
    generalize (q : Rat) = v at *
    generalize (r1 : Rat) = a at *
    generalize (r2 : Rat) = b at *
    grind
  have e' := Rat.intCast_inj.1 e
  have hz : d * q - n * p ≠ 0 := by
    intro k
    apply hd
    have : ((d * q - n * p : Int) : Rat) = 0 := by rw [k]; rfl
    simp only [Rat.intCast_sub, Rat.intCast_mul] at this
    generalize (n : Rat) = x at *
    generalize (d : Rat) = y at *
    generalize (p : Rat) = z at *
    generalize (q : Rat) = v at *
    grind
  rcases Int.lt_or_gt_of_ne hz with k | k
  · exact sf_low (N := -(n * q + p * d)) (D := -(d * q - n * p)) o (by omega) (by rw [Int.neg_mul, Int.mul_neg, e']) (by omega) (by omega) (by omega) (by omega) (by omega)
  · exact sf_low (N := n * q + p * d) (D := d * q - n * p) o (by omega) e'.symm (by omega) (by omega) (by omega) (by omega) (by omega)
set_option maxHeartbeats 3200000 in
theorem group_all (V : Nat → Int) (axis other n d p q : Int) (hV : okCW V) (hs : okC n d) (ht : okC p q) (w : World) :
    Calls Try.prog 7 #[.agg #[.int .i64 (V 0), .int .i64 (V 1), .int .i64 (V 2), .int .i64 (V 3), .int .i64 (V 4), .int .i64 (V 5)], .int .i64 axis, .int .i64 other, .agg #[.int .i64 n, .int .i64 d], .agg #[.int .i64 p, .int .i64 q]] w fun x w' => x = .returned (.bool true) ∧ Below w.heap.size w w' := by
  have S1 := fun w => small_ls V V n d hV hV hs w
  have S2 := fun w => small_ls V V p q hV hV ht w
  have AL := fun w => law_alive w
  by_cases h1 : smL (ls V V n d)
  · rw [decide_eq_true h1] at S1
    by_cases h2 : smL (ls V V p q)
    · rw [decide_eq_true h2] at S2
      by_cases hB : axis < 0 ∨ 2 < axis ∨ other < 0 ∨ 2 < other ∨ 20 < n ∨ n < -20 ∨ 20 < p ∨ p < -20
      · exact group_out_c V axis other n d p q hB S1 S2 AL w
      have k0 : ¬ axis < 0 := by omega
      have k1 : ¬ 2 < axis := by omega
      have k2 : ¬ other < 0 := by omega
      have k3 : ¬ 2 < other := by omega
      have k4 : ¬ 20 < n := by omega
      have k5 : ¬ n < -20 := by omega
      have k6 : ¬ 20 < p := by omega
      have k7 : ¬ p < -20 := by omega
      have Fs := sm_t h1 k4 k5
      have Ft := sm_t h2 k6 k7
      have oV := (sm_vec h1).1
      have a1 : ¬ (axis < 0 ∨ 2 < axis) := by omega
      have a2 : ¬ (other < 0 ∨ 2 < other) := by omega
      have x1 : axis.toNat < 3 := by omega
      have x2 : other.toNat < 3 := by omega
      clear hB
      have p1 := sf_turn (sf_up Fs (by omega) (by omega))
      have p2 := sf_turn (sf_up Ft (by omega) (by omega))
      obtain ⟨c, s, i1, i2, i3, i4, oM, vM⟩ := q_tm Fs.1 a1 p1
      obtain ⟨e, f, j1, j2, j3, j4, oN, vN⟩ := q_tm Ft.1 a2 p2
      have EMm : EM (tmR axis n d) := by rw [(tm_ok axis n d Fs.1 a1 p1).1]; exact tu_sf x1 (turn_sf Fs).1 (turn_sf Fs).2
      have EMn : EM (tmR other p q) := by rw [(tm_ok other p q Ft.1 a2 p2).1]; exact tu_sf x2 (turn_sf Ft).1 (turn_sf Ft).2
      have ep := pm_sf oM oN EMm EMn
      obtain ⟨oP, vP⟩ := q_pm oM oN ep
      have vP' : ∀ i j, i < 3 → j < 3 → mv (pmR (tmR axis n d) (tmR other p q)) i j = rotV axis.toNat c s i 0 * rotV other.toNat e f 0 j + rotV axis.toNat c s i 1 * rotV other.toNat e f 1 j + rotV axis.toNat c s i 2 * rotV other.toNat e f 2 j := fun i j hi hj => by
        rw [vP i j hi hj, vM i 0 hi (by omega), vM i 1 hi (by omega), vM i 2 hi (by omega), vN 0 j (by omega) hj, vN 1 j (by omega) hj, vN 2 j (by omega) hj]
      have CM := fun w => vec_TurnM axis n d hs w
      rw [(tm_ok axis n d Fs.1 a1 p1).2] at CM
      have CN := fun w => vec_TurnM other p q ht w
      rw [(tm_ok other p q Ft.1 a2 p2).2] at CN
      have CP := fun w => vec_ProdM _ _ (okM_okCM oM) (okM_okCM oN) w
      rw [ep] at CP
      have cX : okCW (apR (tmR other p q) V) := okCW_ap
      obtain ⟨em, Sm⟩ := sf_mu Fs Ft (by omega) (by omega)
      obtain ⟨el, Sl⟩ := sf_ad sf_11 (sf_neg Sm) (by omega) (by omega)
      obtain ⟨ea, Sa⟩ := sf_ad Fs Ft (by omega) (by omega)
      have C1 := fun w => frac_MulC hs ht w
      rw [em] at C1
      have C2 := fun w => frac_SubC (a := 1) (b := 1) (by unfold okC; omega) (sf_okC Sm) w
      rw [el] at C2
      have C3 := fun w => frac_AddC hs ht w
      rw [ea] at C3
      have C4 := fun w => frac_DivC (sf_okC Sa) (sf_okC Sl) w
      have qm := (q_mu Fs.1 Ft.1 em).2
      have ql := (q_ad sf_11.1 (sf_neg Sm).1 el).2
      have qa := (q_ad Fs.1 Ft.1 ea).2
      rw [q_11, q_neg, qm] at ql
      refine group_walk V (apR (tmR other p q) V) (apR (tmR axis n d) (apR (tmR other p q) V)) (apR (pmR (tmR axis n d) (tmR other p q)) V) (tmR axis n d) (tmR other p q) (pmR (tmR axis n d) (tmR other p q))
        (tmR axis (dvN (adN n d p q) (adD n d p q) (adN 1 1 (-(muN n d p q)) (muD n d p q)) (adD 1 1 (-(muN n d p q)) (muD n d p q))) (dvD (adN n d p q) (adD n d p q) (adN 1 1 (-(muN n d p q)) (muD n d p q)) (adD 1 1 (-(muN n d p q)) (muD n d p q))))
        axis other n d p q _ _ _ _ _ _ _ _ _ _ _ _ _ _ (eq_false k0) (eq_false k1) (eq_false k2) (eq_false k3) (eq_false k4) (eq_false k5) (eq_false k6) (eq_false k7) ?_ ?_ ?_ ?_ S1 S2 AL CM CN CP
        (fun w => vec_ApplyM _ V (okM_okCM oN) hV w) (fun w => vec_ApplyM _ _ (okM_okCM oM) cX w) (fun w => vec_ApplyM _ V (okM_okCM oP) hV w) (fun w => vec_IsM _ (okM_okCM oP) w) C1 C2 C3 C4 w
      · intro e1 e2 e3
        obtain ⟨oX, vX⟩ := q_ap oN oV e1
        obtain ⟨oY, vY⟩ := q_ap oM oX e2
        obtain ⟨oZ, vZ⟩ := q_ap oP oV e3
        have key : ∀ i, i < 3 → vv (apR (tmR axis n d) (apR (tmR other p q) V)) i = vv (apR (pmR (tmR axis n d) (tmR other p q)) V) i := by
          intro i hi
          rw [vY i hi, vZ i hi, vP i 0 hi (by omega), vP i 1 hi (by omega), vP i 2 hi (by omega), vX 0 (by omega), vX 1 (by omega), vX 2 (by omega)]
          grind
        exact vec_ext oY oZ (key 0 (by omega)) (key 1 (by omega)) (key 2 (by omega))
      · intro e4
        exact q_is oP e4 (rot_two x1 x2 i1 j1 vP')
      · intro e5
        apply Classical.byContradiction
        intro hz
        exact e5 (sf_dv Sa Sl hz (by omega) (by omega)).1
      · intro ho e5
        subst ho
        obtain ⟨hz, oR, vR⟩ := q_dv Sa.1 Sl.1 e5
        have dl := den_pos Sl.1
        have hd : 1 - qv n d * qv p q ≠ 0 := by
          intro k
          have z : qv (adN 1 1 (-(muN n d p q)) (muD n d p q)) (adD 1 1 (-(muN n d p q)) (muD n d p q)) = qv 0 1 := by rw [ql, q_01]; grind
          have := q_eq' (by omega) (by omega) z
          omega
        rw [ql, qa, ← Rat.sub_eq_add_neg] at vR
        have SR := sum_par Fs Ft oR hd vR
        have pr := sf_turn SR
        have CG := fun w => vec_TurnM axis _ _ (sf_okC SR) w
        rw [(tm_ok axis _ _ SR.1 a1 pr).2] at CG
        obtain ⟨g, l, l1, l2, l3, l4, oG, vG⟩ := q_tm SR.1 a1 pr
        obtain ⟨eg, es⟩ := cos_sum i4 j4 l4 hd vR i2 i3 j2 j3 l2 l3
        refine ⟨CG, ?_⟩
        rw [matB_iff]
        refine mat_ext oG oP (fun i j hi hj => ?_)
        rw [vG i j hi hj, vP' i j hi hj, eg, es]
        exact rot_sum x1 c s e f i j hi hj
    · rw [decide_eq_false h2] at S2
      exact group_out_b V axis other n d p q S1 S2 AL w
  · rw [decide_eq_false h1] at S1
    exact group_out_a V axis other n d p q S1 AL w
end Go.Proofs.Ytlijkebdaalldaa
