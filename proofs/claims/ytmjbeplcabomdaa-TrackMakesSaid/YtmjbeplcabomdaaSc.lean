/-
  What the reference does with enclosures: checks, sums, differences, products, signs.
-/
import Derived.Test.YtmjbeplcabomdaaSb
namespace Go.Proofs.Ytmjbeplcabomdaa
open Go.RowKit
set_option linter.unusedVariables false
set_option linter.unusedSimpArgs false

set_option maxHeartbeats 400000 in
theorem ref5_Valid (a b : Int) (w : World) :
    Calls Try.prog 44 #[.agg #[.int .i64 a, .int .i64 b]] w fun e w' => e = .returned (.bool (spV a b)) ∧ Below w.heap.size w w' := by
  go_enter Try.func44, Try.ntmps44
  go_wp2
  all_goals go_ret
  all_goals exact ⟨ret_sb (by simp [spV, *]; try omega), (Below.refl _ _).alloc (Nat.le_refl _) _⟩

set_option maxHeartbeats 400000 in
theorem ref5_Neg (a b : Int) (h1 : -9223372036854775807 ≤ a) (h2 : a ≤ 9223372036854775807) (h3 : -9223372036854775807 ≤ b) (h4 : b ≤ 9223372036854775807) (w : World) :
    Calls Try.prog 23 #[.agg #[.int .i64 a, .int .i64 b]] w fun e w' => e = .returned (.agg #[.int .i64 (-b), .int .i64 (-a)]) ∧ Below w.heap.size w w' := by
  have dAl := dAl; have dSt := dSt; have xC := ext_cell; have xF := ext_frozen; have xS := ext_set; have xN := ext_drewN; have xD := ext_drew; have xL := ext_lt; have xE := ext_ne; have xG := ext_nr; have xX := ext_ext; have xL1 := ext_lt1; have xL2 := ext_lt2; have xL3 := ext_lt3; have xM0 := ext_le0; have xM1 := ext_le1; have xM2 := ext_le2
  go_enter Try.func23, Try.ntmps23
  go_wp2
  refine bodyPost_ret (by simp [results, Try.results23, go_sem, ext_ext, ext_cell]; try rfl) rfl ?_
  exact ⟨rfl, by (repeat (first | with_reducible exact b0 _ | (with_reducible refine bext ?_ _ _) | (with_reducible refine below_drewN ?_ _) | (with_reducible refine Below.drew ?_) | (with_reducible refine bal ?_ _)))⟩

set_option maxHeartbeats 400000 in
theorem ref5_made (a b : Int) (w : World) :
    Calls Try.prog 45 #[.int .i64 a, .int .i64 b] w fun e w' => e = .returned (.tuple #[.agg #[.int .i64 (mdL a b), .int .i64 (mdH a b)], .int .i64 (mdE a b)]) ∧ Below w.heap.size w w' := by
  have A1 := fun w => ref5_Valid a b w
  have r1 : mdL a b = if spV a b = true then a else 0 := rfl
  have r2 : mdH a b = if spV a b = true then b else 0 := rfl
  have r3 : mdE a b = if spV a b = true then 0 else 16 := rfl
  generalize mdL a b = x at *
  generalize mdH a b = y at *
  generalize mdE a b = z at *
  generalize spV a b = p at *
  have R1 := Lib.hid r1; have R2 := Lib.hid r2; have R3 := Lib.hid r3
  clear r1 r2 r3
  cases p
  all_goals
    have dAl := dAl; have dSt := dSt; have xC := ext_cell; have xF := ext_frozen; have xS := ext_set; have xN := ext_drewN; have xD := ext_drew; have xL := ext_lt; have xE := ext_ne; have xG := ext_nr; have xX := ext_ext; have xL1 := ext_lt1; have xL2 := ext_lt2; have xL3 := ext_lt3; have xM0 := ext_le0; have xM1 := ext_le1; have xM2 := ext_le2
    go_enter Try.func45, Try.ntmps45
    go_wp2_with fail
    refine (A1 _).mono ?_
    rintro e w1 ⟨rfl, hb⟩
    obtain ⟨l1, d1, rfl⟩ := toExt hb
    clear hb
    go_wp2
    refine bodyPost_ret (by simp [results, Try.results45, go_sem, ext_ext, ext_cell]; try rfl) rfl ?_
    exact ⟨ret_sp R1.out.symm R2.out.symm R3.out.symm, by (repeat (first | with_reducible exact b0 _ | (with_reducible refine bext ?_ _ _) | (with_reducible refine below_drewN ?_ _) | (with_reducible refine Below.drew ?_) | (with_reducible refine bal ?_ _)))⟩

set_option maxHeartbeats 400000 in
theorem ref5_down (n d : Int) (h0 : -9223372036854775807 ≤ n) (h1 : n ≤ 9223372036854775807) (h2 : 1 ≤ d) (h3 : d ≤ 9223372036854775807) (w : World) :
    Calls Try.prog 73 #[.int .i64 n, .int .i64 d] w fun e w' => e = .returned (.int .i64 (n / d)) ∧ w' = w := by
  by_cases hx : 0 ≤ n
  · obtain ⟨q1, q2⟩ := quo_pos n d hx
    have b1 := Int.ediv_le_self d hx
    have b2 := Int.ediv_nonneg hx (show 0 ≤ d by omega)
    have b3 := Int.emod_nonneg n (show d ≠ 0 by omega)
    generalize n / d = q at *
    generalize n % d = m at *
    go_enter Try.func73, Try.ntmps73
    go_wp2
    all_goals go_ret
    all_goals exact ⟨ret_s1 (by omega), rfl⟩
  · have b1 := ediv_ge_self n d (by omega) h2
    rcases quo_neg n d (by omega) (by omega) with ⟨m, q1, q2⟩ | ⟨m, q1, q2⟩
    · have b2 := Int.ediv_neg_of_neg_of_pos (show n < 0 by omega) (show 0 < d by omega)
      generalize n / d = q at *
      have k1 : (n.tmod d < 0) = False := by rw [q2]; simp
      go_enter Try.func73, Try.ntmps73
      go_wp2
      all_goals go_ret
      all_goals exact ⟨ret_s1 (by omega), rfl⟩
    · have b3 := Int.emod_lt_of_pos n (show 0 < d by omega)
      have b2 := Int.ediv_neg_of_neg_of_pos (show n < 0 by omega) (show 0 < d by omega)
      generalize n / d = q at *
      generalize n % d = m at *
      go_enter Try.func73, Try.ntmps73
      go_wp2
      all_goals go_ret
      all_goals exact ⟨ret_s1 (by omega), rfl⟩

set_option maxHeartbeats 400000 in
theorem ref5_Mul (a b c d : Int) (w : World) :
    Calls Try.prog 58 #[.agg #[.int .i64 a, .int .i64 b], .agg #[.int .i64 c, .int .i64 d]] w fun e w' => e = .returned (.tuple #[.agg #[.int .i64 (smL a b c d), .int .i64 (smH a b c d)], .int .i64 (smE a b c d)]) ∧ Below w.heap.size w w' := by
  have A1 := fun w => ref5_Valid a b w
  have A2 := fun w => ref5_Valid c d w
  by_cases v1 : spV a b = true
  · rw [v1] at A1
    by_cases v2 : spV c d = true
    · rw [v2] at A2
      obtain ⟨k1, k2, k3⟩ := spV_out v1
      obtain ⟨k4, k5, k6⟩ := spV_out v2
      have hb : bV a b c d = true := by rw [bV, v1, v2]; rfl
      have r1 : smL a b c d = mdL (pL a b c d) (pH a b c d) := by rw [smL, if_pos hb]
      have r2 : smH a b c d = mdH (pL a b c d) (pH a b c d) := by rw [smH, if_pos hb]
      have r3 : smE a b c d = mdE (pL a b c d) (pH a b c d) := by rw [smE, if_pos hb]
      have m1 := mul4_bd k2 (Int.le_trans k1 k3) k5 (Int.le_trans k4 k6)
      have m2 := mul4_bd k2 (Int.le_trans k1 k3) (Int.le_trans k5 k4) k6
      have m3 := mul4_bd (Int.le_trans k2 k1) k3 k5 (Int.le_trans k4 k6)
      have m4 := mul4_bd (Int.le_trans k2 k1) k3 (Int.le_trans k5 k4) k6
      have A5 := fun w => ref5_made (pL a b c d) (pH a b c d) w
      rw [r1, r2, r3]
      unfold pL pH mn4 mx4 at *
      have L1 := mi4_bd m1 m2 m3 m4
      have L2 := ma4_bd m1 m2 m3 m4
      clear r1 r2 r3 hb v1 v2
      have dAl := dAl; have dSt := dSt; have xC := ext_cell; have xF := ext_frozen; have xS := ext_set; have xN := ext_drewN; have xD := ext_drew; have xL := ext_lt; have xE := ext_ne; have xG := ext_nr; have xX := ext_ext; have xL1 := ext_lt1; have xL2 := ext_lt2; have xL3 := ext_lt3; have xM0 := ext_le0; have xM1 := ext_le1; have xM2 := ext_le2
      go_enter Try.func58, Try.ntmps58
      go_wp2_with fail
      refine (A1 _).mono ?_
      rintro e w1c ⟨rfl, hb1c⟩
      obtain ⟨l1c, d1c, rfl⟩ := toExt hb1c
      clear hb1c
      go_wp2_with fail
      refine (A2 _).mono ?_
      rintro e w2c ⟨rfl, hb2c⟩
      obtain ⟨l2c, d2c, rfl⟩ := toExt hb2c
      clear hb2c
      go_wp2_with fail
      go_quiet (fail)
      clear A1 A2 k1 k2 k3 k4 k5 k6 m1 m2 m3 m4
      have M1 := run_min4
      have M2 := run_max4
      have F1 := fun w => ref5_down (mi4 (a * c) (a * d) (b * c) (b * d)) 1000000 (by omega) (by omega) (by omega) (by omega) w
      have F2 := fun w => ref5_down (-ma4 (a * c) (a * d) (b * c) (b * d)) 1000000 (by omega) (by omega) (by omega) (by omega) w
      have W1 : IntKind.i64.wrap (-ma4 (a * c) (a * d) (b * c) (b * d)) = -ma4 (a * c) (a * d) (b * c) (b * d) := IntWalk.i64_in _ (by omega)
      have W2 : IntKind.i64.wrap (-(-ma4 (a * c) (a * d) (b * c) (b * d) / 1000000)) = -(-ma4 (a * c) (a * d) (b * c) (b * d) / 1000000) := IntWalk.i64_in _ (by omega)
      go_wp2_with fail
      with_reducible refine (F1 _).mono ?_
      rintro e w1 ⟨rfl, rfl⟩
      go_wp2_with fail
      with_reducible refine (F2 _).mono ?_
      rintro e w1 ⟨rfl, rfl⟩
      go_wp2_with fail
      refine (A5 _).mono ?_
      rintro e w3c ⟨rfl, hb3c⟩
      obtain ⟨l3c, d3c, rfl⟩ := toExt hb3c
      clear hb3c
      go_wp2
      refine bodyPost_ret (by simp [results, Try.results58, go_sem, ext_ext, ext_cell]; try rfl) rfl ?_
      exact ⟨rfl, by (repeat (first | with_reducible exact b0 _ | (with_reducible refine bext ?_ _ _) | (with_reducible refine below_drewN ?_ _) | (with_reducible refine Below.drew ?_) | (with_reducible refine bal ?_ _)))⟩
    · have v2' : spV c d = false := by simpa using v2
      rw [v2'] at A2
      have hb : ¬ bV a b c d = true := by rw [bV, v1, v2']; decide
      have r1 : smL a b c d = 0 := by rw [smL, if_neg hb]
      have r2 : smH a b c d = 0 := by rw [smH, if_neg hb]
      have r3 : smE a b c d = 8 := by rw [smE, if_neg hb]
      rw [r1, r2, r3]
      clear r1 r2 r3 hb v1 v2 v2'
      have dAl := dAl; have dSt := dSt; have xC := ext_cell; have xF := ext_frozen; have xS := ext_set; have xN := ext_drewN; have xD := ext_drew; have xL := ext_lt; have xE := ext_ne; have xG := ext_nr; have xX := ext_ext; have xL1 := ext_lt1; have xL2 := ext_lt2; have xL3 := ext_lt3; have xM0 := ext_le0; have xM1 := ext_le1; have xM2 := ext_le2
      go_enter Try.func58, Try.ntmps58
      go_wp2_with fail
      refine (A1 _).mono ?_
      rintro e w4c ⟨rfl, hb4c⟩
      obtain ⟨l4c, d4c, rfl⟩ := toExt hb4c
      clear hb4c
      go_wp2_with fail
      refine (A2 _).mono ?_
      rintro e w5c ⟨rfl, hb5c⟩
      obtain ⟨l5c, d5c, rfl⟩ := toExt hb5c
      clear hb5c
      go_wp2
      refine bodyPost_ret (by simp [results, Try.results58, go_sem, ext_ext, ext_cell]; try rfl) rfl ?_
      exact ⟨rfl, by (repeat (first | with_reducible exact b0 _ | (with_reducible refine bext ?_ _ _) | (with_reducible refine below_drewN ?_ _) | (with_reducible refine Below.drew ?_) | (with_reducible refine bal ?_ _)))⟩
  · have v1' : spV a b = false := by simpa using v1
    rw [v1'] at A1
    have hb : ¬ bV a b c d = true := by rw [bV, v1']; simp
    have r1 : smL a b c d = 0 := by rw [smL, if_neg hb]
    have r2 : smH a b c d = 0 := by rw [smH, if_neg hb]
    have r3 : smE a b c d = 8 := by rw [smE, if_neg hb]
    rw [r1, r2, r3]
    clear r1 r2 r3 hb v1 v1' A2
    have dAl := dAl; have dSt := dSt; have xC := ext_cell; have xF := ext_frozen; have xS := ext_set; have xN := ext_drewN; have xD := ext_drew; have xL := ext_lt; have xE := ext_ne; have xG := ext_nr; have xX := ext_ext; have xL1 := ext_lt1; have xL2 := ext_lt2; have xL3 := ext_lt3; have xM0 := ext_le0; have xM1 := ext_le1; have xM2 := ext_le2
    go_enter Try.func58, Try.ntmps58
    go_wp2_with fail
    refine (A1 _).mono ?_
    rintro e w6c ⟨rfl, hb6c⟩
    obtain ⟨l6c, d6c, rfl⟩ := toExt hb6c
    clear hb6c
    go_wp2
    refine bodyPost_ret (by simp [results, Try.results58, go_sem, ext_ext, ext_cell]; try rfl) rfl ?_
    exact ⟨rfl, by (repeat (first | with_reducible exact b0 _ | (with_reducible refine bext ?_ _ _) | (with_reducible refine below_drewN ?_ _) | (with_reducible refine Below.drew ?_) | (with_reducible refine bal ?_ _)))⟩

end Go.Proofs.Ytmjbeplcabomdaa
