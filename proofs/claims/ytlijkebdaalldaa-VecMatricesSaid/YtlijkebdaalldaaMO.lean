/-
  The product of matrices in the reference.  Turns, and Is, in the reference.
-/
import Derived.Test.YtlijkebdaalldaaKu
import Derived.Test.YtlijkebdaalldaaMM
import Derived.Test.YtlijkebdaalldaaMH
import Derived.Test.YtlijkebdaalldaaWk3
import Derived.Test.YtlijkebdaalldaaWir
import Derived.Test.YtlijkebdaalldaaMN
import Derived.Test.YtlijkebdaalldaaFyz
import Derived.Test.YtlijkebdaalldaaFxq
import Derived.Test.YtlijkebdaalldaaFxr
namespace Go.Proofs.Ytlijkebdaalldaa
open Go.RowKit
set_option linter.unusedVariables false
set_option linter.unusedSimpArgs false

theorem dot_ref (M N : Nat → Int) (hM : okM M) (hN : okM N) (i k : Nat) (hi : i < 3) (hk : k < 3) (w : World) :
    Calls Try.prog 53 #[.agg #[.int .i64 (M (6 * i)), .int .i64 (M (6 * i + 1)), .int .i64 (M (6 * i + 2)), .int .i64 (M (6 * i + 3)), .int .i64 (M (6 * i + 4)), .int .i64 (M (6 * i + 5))], .agg #[.int .i64 (N (2 * k)), .int .i64 (N (2 * k + 1)), .int .i64 (N (6 + 2 * k)), .int .i64 (N (6 + 2 * k + 1)), .int .i64 (N (12 + 2 * k)), .int .i64 (N (12 + 2 * k + 1))]] w fun x w' => x = .returned (.tuple #[.agg #[.int .i64 (pL M N (6 * i + 2 * k)), .int .i64 (pL M N (6 * i + 2 * k + 1))], .int .i64 (pE9 M N (3 * i + k))]) ∧ Below w.heap.size w w' := by
  obtain ⟨-, v1, v2, v3⟩ := okM_flip hN
  obtain ⟨u1, u2, u3⟩ := okM_row M hM
  rcases (show i = 0 ∨ i = 1 ∨ i = 2 by omega) with rfl | rfl | rfl <;> rcases (show k = 0 ∨ k = 1 ∨ k = 2 by omega) with rfl | rfl | rfl
  · exact dt_of u1 v1 w
  · exact dt_of u1 v2 w
  · exact dt_of u1 v3 w
  · exact dt_of u2 v1 w
  · exact dt_of u2 v2 w
  · exact dt_of u2 v3 w
  · exact dt_of u3 v1 w
  · exact dt_of u3 v2 w
  · exact dt_of u3 v3 w
theorem ref2_ProdM (M N : Nat → Int) (hM : okCM M) (hN : okCM N) (w : World) :
    Calls Try.prog 24 #[.agg #[.int .i64 (M 0), .int .i64 (M 1), .int .i64 (M 2), .int .i64 (M 3), .int .i64 (M 4), .int .i64 (M 5), .int .i64 (M 6), .int .i64 (M 7), .int .i64 (M 8), .int .i64 (M 9), .int .i64 (M 10), .int .i64 (M 11), .int .i64 (M 12), .int .i64 (M 13), .int .i64 (M 14), .int .i64 (M 15), .int .i64 (M 16), .int .i64 (M 17)], .agg #[.int .i64 (N 0), .int .i64 (N 1), .int .i64 (N 2), .int .i64 (N 3), .int .i64 (N 4), .int .i64 (N 5), .int .i64 (N 6), .int .i64 (N 7), .int .i64 (N 8), .int .i64 (N 9), .int .i64 (N 10), .int .i64 (N 11), .int .i64 (N 12), .int .i64 (N 13), .int .i64 (N 14), .int .i64 (N 15), .int .i64 (N 16), .int .i64 (N 17)]] w fun x w' => x = .returned (.tuple #[.agg #[.int .i64 ((pmR M N) 0), .int .i64 ((pmR M N) 1), .int .i64 ((pmR M N) 2), .int .i64 ((pmR M N) 3), .int .i64 ((pmR M N) 4), .int .i64 ((pmR M N) 5), .int .i64 ((pmR M N) 6), .int .i64 ((pmR M N) 7), .int .i64 ((pmR M N) 8), .int .i64 ((pmR M N) 9), .int .i64 ((pmR M N) 10), .int .i64 ((pmR M N) 11), .int .i64 ((pmR M N) 12), .int .i64 ((pmR M N) 13), .int .i64 ((pmR M N) 14), .int .i64 ((pmR M N) 15), .int .i64 ((pmR M N) 16), .int .i64 ((pmR M N) 17)], .int .i64 (pmE M N)]) ∧ Below w.heap.size w w' := by
  have VA := ref2_Valid M hM
  have VB := ref2_Valid N hN
  by_cases h1 : okM M
  · rw [chM_ok h1] at VA
    by_cases h2 : okM N
    · rw [chM_ok h2] at VB
      have ho : okM M ∧ okM N := ⟨h1, h2⟩
      rw [show pmR M N = prR (pE9 M N) (pL M N) from funext (fun o => if_pos ho), show pmE M N = feI (pE9 M N) 9 from if_pos ho]
      exact ref2_prod_ok M N _ _ VA VB (fun i k hi hk w => dot_ref M N h1 h2 i k hi hk w) w
    · rw [chM_bad h2] at VB
      have ho : ¬ (okM M ∧ okM N) := fun k => h2 k.2
      rw [show pmR M N = fun _ => 0 from funext (fun o => if_neg ho), show pmE M N = 8 from if_neg ho]
      exact ref2_prod_badN M N VA VB w
  · rw [chM_bad h1] at VA
    have ho : ¬ (okM M ∧ okM N) := fun k => h1 k.1
    rw [show pmR M N = fun _ => 0 from funext (fun o => if_neg ho), show pmE M N = 8 from if_neg ho]
    exact ref2_prod_badM M N VA w
end Go.Proofs.Ytlijkebdaalldaa
namespace Go.Proofs.Ytlijkebdaalldaa
open Go.RowKit
set_option linter.unusedVariables false
set_option linter.unusedSimpArgs false

theorem ref2_IsM (M : Nat → Int) (hM : okCM M) (w : World) :
    Calls Try.prog 28 #[.agg #[.int .i64 (M 0), .int .i64 (M 1), .int .i64 (M 2), .int .i64 (M 3), .int .i64 (M 4), .int .i64 (M 5), .int .i64 (M 6), .int .i64 (M 7), .int .i64 (M 8), .int .i64 (M 9), .int .i64 (M 10), .int .i64 (M 11), .int .i64 (M 12), .int .i64 (M 13), .int .i64 (M 14), .int .i64 (M 15), .int .i64 (M 16), .int .i64 (M 17)]] w fun x w' => x = .returned (.tuple #[.bool (isB M), .int .i64 (isE M)]) ∧ Below w.heap.size w w' := by
  have VA := ref2_Valid M hM
  by_cases ho : okM M
  · rw [chM_ok ho] at VA
    have oF := (okM_flip ho).1
    have FL := fun w => ref2_flip_ok M VA w
    have PR := ref2_ProdM M (fpP M) hM (okM_okCM oF)
    have hq : okM M ∧ okM (fpP M) := ⟨ho, oF⟩
    rw [show pmR M (fpP M) = prR (pE9 M (fpP M)) (pL M (fpP M)) from funext (fun o => if_pos hq), show pmE M (fpP M) = feI (pE9 M (fpP M)) 9 from if_pos hq] at PR
    have DE := ref2_DetM M hM
    rw [show dmN M = deN M from if_pos ho, show dmD M = deD M from if_pos ho, show dmE M = deE M from if_pos ho] at DE
    have U := fun w => ref2_Same w (ref_Of 0) (ref_Of 1)
    by_cases h1 : feI (pE9 M (fpP M)) 9 = 0
    · rw [h1] at PR
      rw [show isE M = deE M by unfold isE; rw [if_pos ho, if_pos h1]]
      by_cases h2 : deE M = 0
      · rw [h2] at DE ⊢
        by_cases hm : matB (prR (pE9 M (fpP M)) (pL M (fpP M))) unP = true
        · by_cases d1 : deN M = 1
          · by_cases d2 : deD M = 1
            · rw [show isB M = true by unfold isB; rw [hm, decide_eq_true ⟨ho, h1, h2, d1, d2⟩]; rfl]
              exact ref2_is_tt M VA _ _ _ _ FL PR DE U (ref_Of 1) hm (eq_true d1) (eq_true d2) w
            · rw [isB_no (fun k => d2 k.2.2.2.2)]
              exact ref2_is_t2 M VA _ _ _ _ FL PR DE U (ref_Of 1) hm (eq_true d1) (eq_false d2) w
          · rw [isB_no (fun k => d1 k.2.2.2.1)]
            exact ref2_is_t1 M VA _ _ _ _ FL PR DE U (ref_Of 1) hm (eq_false d1) w
        · have hm' : matB (prR (pE9 M (fpP M)) (pL M (fpP M))) unP = false := by simpa using hm
          rw [show isB M = false by unfold isB; rw [hm', Bool.and_false]]
          exact ref2_is_f M VA _ _ _ _ FL PR DE U (ref_Of 1) hm' w
      · rw [isB_no (fun k => h2 k.2.2.1)]
        exact ref2_is_e2 M VA _ _ _ _ _ (by simp [h2]) FL PR DE w
    · rw [isB_no (fun k => h1 k.2.1), show isE M = feI (pE9 M (fpP M)) 9 by unfold isE; rw [if_pos ho, if_neg h1]]
      exact ref2_is_e1 M VA _ _ _ (by simp [h1]) FL PR w
  · rw [chM_bad ho] at VA
    rw [isB_no (fun k => ho k.1), show isE M = 8 from if_neg ho]
    exact ref2_is_chk M VA w
theorem pair_all (n d : Int) (ho : okF n d = true) : ∃ c1 c2 s1 s2 : Int, (∀ w : World, Calls Try.prog 60 #[.agg #[.int .i64 n, .int .i64 d]] w fun x w' => x = .returned (.tuple #[.agg #[.int .i64 c1, .int .i64 c2], .agg #[.int .i64 s1, .int .i64 s2], .int .i64 (pr_E n d)]) ∧ Below w.heap.size w w') ∧
    (pr_E n d = 0 → c1 = c_N n d ∧ c2 = c_D n d ∧ s1 = s_N n d ∧ s2 = s_D n d) := by
  have hc := okC_of ho
  have mq := mu_okC n d n d
  have okl : okC (l_N n d) (l_D n d) := ad_okC _ _ _ _
  have okh : okC (h_N n d) (h_D n d) := ad_okC _ _ _ _
  have okt := mu_okC n d 2 1
  have AQ := fun w => ref_Mul n d n d hc.1 hc.2.1 hc.2.2.1 hc.2.2.2 hc.1 hc.2.1 hc.2.2.1 hc.2.2.2 w
  have AL := fun w => ref_Sub 1 1 (muN n d n d) (muD n d n d) (by omega) (by omega) (by omega) (by omega) mq.1 mq.2.1 mq.2.2.1 mq.2.2.2 w
  have AH := fun w => ref_Add 1 1 (muN n d n d) (muD n d n d) (by omega) (by omega) (by omega) (by omega) mq.1 mq.2.1 mq.2.2.1 mq.2.2.2 w
  by_cases hE : fsI (muE n d n d) (l_E n d) (h_E n d) = 0
  · have AC := fun w => ref_Div (l_N n d) (l_D n d) (h_N n d) (h_D n d) okl.1 okl.2.1 okl.2.2.1 okl.2.2.2 okh.1 okh.2.1 okh.2.2.1 okh.2.2.2 w
    have AT2 := fun w => ref_Mul n d 2 1 hc.1 hc.2.1 hc.2.2.1 hc.2.2.2 (by omega) (by omega) (by omega) (by omega) w
    have AS := fun w => ref_Div (muN n d 2 1) (muD n d 2 1) (h_N n d) (h_D n d) okt.1 okt.2.1 okt.2.2.1 okt.2.2.2 okh.1 okh.2.1 okh.2.2.1 okh.2.2.2 w
    refine ⟨c_N n d, c_D n d, s_N n d, s_D n d, fun w => ?_, fun _ => ⟨rfl, rfl, rfl, rfl⟩⟩
    rw [show pr_E n d = fsI (c_E n d) (muE n d 2 1) (s_E n d) from if_pos hE]
    exact ref2_pair_ok n d _ _ _ (l_N n d) (l_D n d) (l_E n d) (h_N n d) (h_D n d) (h_E n d) (c_N n d) (c_D n d) (c_E n d) (muN n d 2 1) (muD n d 2 1) (muE n d 2 1) (s_N n d) (s_D n d) (s_E n d) _ _ (ref_Of 1) AQ AL AH (fun w => ref2_first _ _ _ w) AC (ref_Of 2) AT2 AS (fun w => ref2_first _ _ _ w) (by simp [hE]) w
  · refine ⟨0, 0, 0, 0, fun w => ?_, fun k => absurd ((if_neg hE : pr_E n d = _).symm.trans k) hE⟩
    rw [show pr_E n d = fsI (muE n d n d) (l_E n d) (h_E n d) from if_neg hE]
    exact ref2_pair_bad n d _ _ _ (l_N n d) (l_D n d) (l_E n d) (h_N n d) (h_D n d) (h_E n d) _ (ref_Of 1) AQ AL AH (fun w => ref2_first _ _ _ w) (by simp [hE]) w
theorem ref2_TurnM (axis n d : Int) (hc : okC n d) (w : World) :
    Calls Try.prog 27 #[.int .i64 axis, .agg #[.int .i64 n, .int .i64 d]] w fun x w' => x = .returned (.tuple #[.agg #[.int .i64 ((tmR axis n d) 0), .int .i64 ((tmR axis n d) 1), .int .i64 ((tmR axis n d) 2), .int .i64 ((tmR axis n d) 3), .int .i64 ((tmR axis n d) 4), .int .i64 ((tmR axis n d) 5), .int .i64 ((tmR axis n d) 6), .int .i64 ((tmR axis n d) 7), .int .i64 ((tmR axis n d) 8), .int .i64 ((tmR axis n d) 9), .int .i64 ((tmR axis n d) 10), .int .i64 ((tmR axis n d) 11), .int .i64 ((tmR axis n d) 12), .int .i64 ((tmR axis n d) 13), .int .i64 ((tmR axis n d) 14), .int .i64 ((tmR axis n d) 15), .int .i64 ((tmR axis n d) 16), .int .i64 ((tmR axis n d) 17)], .int .i64 (tmE axis n d)]) ∧ Below w.heap.size w w' := by
  have CK := fun w => ref_Check n d hc.1 hc.2.1 hc.2.2.1 hc.2.2.2 w
  by_cases ho : okF n d = true
  · rw [show chkI n d = 0 from if_pos ho] at CK
    by_cases ha : axis < 0 ∨ 2 < axis
    · obtain ⟨r1, r2⟩ := tm_arg axis n d ho ha
      rw [r1, r2]
      by_cases hl : axis < 0
      · exact ref2_turn_low n d axis hl CK w
      · exact ref2_turn_high n d axis hl (ha.resolve_left hl) CK w
    · obtain ⟨c1, c2, s1, s2, CI, hv⟩ := pair_all n d ho
      by_cases he : pr_E n d = 0
      · obtain ⟨r1, r2⟩ := tm_ok axis n d ho ha he
        rw [r1, r2]
        obtain ⟨rfl, rfl, rfl, rfl⟩ := hv he
        rw [he] at CI
        have MI := fun w => ref_Neg (s_N n d) (s_D n d) (s_bd n d).1 (s_bd n d).2 w
        have U := fun w => ref2_Same w (ref_Of 0) (ref_Of 1)
        rcases (show axis = 0 ∨ axis = 1 ∨ axis = 2 by omega) with rfl | rfl | rfl
        · exact ref2_turn_ok0 n d _ _ _ _ CK CI U MI w
        · exact ref2_turn_ok1 n d _ _ _ _ CK CI U MI w
        · exact ref2_turn_ok2 n d _ _ _ _ CK CI U MI w
      · obtain ⟨r1, r2⟩ := tm_err axis n d ho ha he
        rw [r1, r2]
        rcases (show axis = 0 ∨ axis = 1 ∨ axis = 2 by omega) with rfl | rfl | rfl
        · exact ref2_turn_err0 n d _ _ _ _ _ (by simp [he]) CK CI w
        · exact ref2_turn_err1 n d _ _ _ _ _ (by simp [he]) CK CI w
        · exact ref2_turn_err2 n d _ _ _ _ _ (by simp [he]) CK CI w
  · rw [show chkI n d = 8 from if_neg ho] at CK
    obtain ⟨r1, r2⟩ := tm_bad axis n d ho
    rw [r1, r2]
    exact ref2_turn_bad n d axis CK w
end Go.Proofs.Ytlijkebdaalldaa
