/-
  What the code does with enclosures: checks, sums, differences, products, signs.
-/
import Derived.Test.YtmjbeplcabomdaaRows
import Derived.WalkKit
import Derived.WalkSpells
import Derived.WalkLawsBesides
import Derived.Lib.Hide
import Derived.Handy
import Derived.Deep.QuietTactic
import Derived.BigQuiet
import Derived.Deep.RegionHeld3
import Derived.Test.YtmjbeplcabomdaaSm
namespace Go.Proofs.Ytmjbeplcabomdaa
open Go.RowKit
set_option linter.unusedVariables false
set_option linter.unusedSimpArgs false

set_option maxHeartbeats 400000 in
theorem sine_valid (a b : Int) (w : World) :
    Calls Try.prog 66 #[.agg #[.int .i64 a, .int .i64 b]] w fun e w' => e = .returned (.bool (spV a b)) ∧ Below w.heap.size w w' := by
  go_enter Try.func66, Try.ntmps66
  go_wp2
  all_goals go_ret
  all_goals exact ⟨ret_sb (by simp [spV, *]; try omega), (Below.refl _ _).alloc (Nat.le_refl _) _⟩

set_option maxHeartbeats 400000 in
theorem sine_floor (x : Int) (h0 : -9223372036854775807 ≤ x) (h1 : x ≤ 9223372036854775807) (w : World) :
    Calls Try.prog 55 #[.int .i64 x] w fun e w' => e = .returned (.int .i64 (x / 1000000)) ∧ w' = w := by
  by_cases hx : 0 ≤ x
  · obtain ⟨q1, q2⟩ := quo_pos x 1000000 hx
    have k1 : (x.tmod 1000000 < 0) = False := by rw [q2]; simp; omega
    go_enter Try.func55, Try.ntmps55
    go_wp2
    go_ret
    exact ⟨ret_s1 (by omega), rfl⟩
  · rcases quo_neg x 1000000 (by omega) (by omega) with ⟨m, q1, q2⟩ | ⟨m, q1, q2⟩
    · have k1 : (x.tmod 1000000 < 0) = False := by rw [q2]; simp
      go_enter Try.func55, Try.ntmps55
      go_wp2
      go_ret
      exact ⟨ret_s1 (by omega), rfl⟩
    · have k1 : (x.tmod 1000000 < 0) = True := by rw [q2]; simp; omega
      go_enter Try.func55, Try.ntmps55
      go_wp2
      go_ret
      exact ⟨ret_s1 (by omega), rfl⟩

set_option maxHeartbeats 400000 in
theorem sine_checkBoth (a b c d : Int) (w : World) :
    Calls Try.prog 53 #[.agg #[.int .i64 a, .int .i64 b], .agg #[.int .i64 c, .int .i64 d]] w fun e w' => e = .returned (.int .i64 (cbE a b c d)) ∧ Below w.heap.size w w' := by
  have A1 := fun w => sine_valid a b w
  have A2 := fun w => sine_valid c d w
  have hr : cbE a b c d = if bV a b c d = true then 0 else 8 := rfl
  unfold bV at hr
  generalize cbE a b c d = r at *
  generalize spV a b = p at *
  generalize spV c d = q at *
  have HR := Lib.hid hr; clear hr
  cases p
  ·
    have dAl := dAl; have dSt := dSt; have xC := ext_cell; have xF := ext_frozen; have xS := ext_set; have xN := ext_drewN; have xD := ext_drew; have xL := ext_lt; have xE := ext_ne; have xG := ext_nr; have xX := ext_ext; have xL1 := ext_lt1; have xL2 := ext_lt2; have xL3 := ext_lt3; have xM0 := ext_le0; have xM1 := ext_le1; have xM2 := ext_le2
    go_enter Try.func53, Try.ntmps53
    go_wp2_with fail
    refine (A1 _).mono ?_
    rintro e w1c ⟨rfl, hb1c⟩
    obtain ⟨l1c, d1c, rfl⟩ := toExt hb1c
    clear hb1c
    go_wp2
    go_ret
    exact ⟨ret_s1 HR.out.symm, by (repeat (first | with_reducible exact b0 _ | (with_reducible refine bext ?_ _ _) | (with_reducible refine below_drewN ?_ _) | (with_reducible refine Below.drew ?_) | (with_reducible refine bal ?_ _)))⟩
  · cases q
    all_goals
      have dAl := dAl; have dSt := dSt; have xC := ext_cell; have xF := ext_frozen; have xS := ext_set; have xN := ext_drewN; have xD := ext_drew; have xL := ext_lt; have xE := ext_ne; have xG := ext_nr; have xX := ext_ext; have xL1 := ext_lt1; have xL2 := ext_lt2; have xL3 := ext_lt3; have xM0 := ext_le0; have xM1 := ext_le1; have xM2 := ext_le2
      go_enter Try.func53, Try.ntmps53
      go_wp2_with fail
      refine (A1 _).mono ?_
      rintro e w2c ⟨rfl, hb2c⟩
      obtain ⟨l2c, d2c, rfl⟩ := toExt hb2c
      clear hb2c
      go_wp2_with fail
      refine (A2 _).mono ?_
      rintro e w3c ⟨rfl, hb3c⟩
      obtain ⟨l3c, d3c, rfl⟩ := toExt hb3c
      clear hb3c
      go_wp2
      go_ret
      exact ⟨ret_s1 HR.out.symm, by (repeat (first | with_reducible exact b0 _ | (with_reducible refine bext ?_ _ _) | (with_reducible refine below_drewN ?_ _) | (with_reducible refine Below.drew ?_) | (with_reducible refine bal ?_ _)))⟩

set_option maxHeartbeats 400000 in
theorem sine_result (a b : Int) (w : World) :
    Calls Try.prog 54 #[.int .i64 a, .int .i64 b] w fun e w' => e = .returned (.tuple #[.agg #[.int .i64 (mdL a b), .int .i64 (mdH a b)], .int .i64 (mdE a b)]) ∧ Below w.heap.size w w' := by
  have A1 := fun w => sine_valid a b w
  have r1 : mdL a b = if spV a b = true then a else 0 := rfl
  have r2 : mdH a b = if spV a b = true then b else 0 := rfl
  have r3 : mdE a b = if spV a b = true then 0 else 16 := rfl
  generalize mdL a b = x at *
  generalize mdH a b = y at *
  generalize mdE a b = z at *
  generalize spV a b = p at *
  have R1 := Lib.hid r1; have R2 := Lib.hid r2; have R3 := Lib.hid r3
  clear r1 r2 r3
  cases p
  all_goals
    have dAl := dAl; have dSt := dSt; have xC := ext_cell; have xF := ext_frozen; have xS := ext_set; have xN := ext_drewN; have xD := ext_drew; have xL := ext_lt; have xE := ext_ne; have xG := ext_nr; have xX := ext_ext; have xL1 := ext_lt1; have xL2 := ext_lt2; have xL3 := ext_lt3; have xM0 := ext_le0; have xM1 := ext_le1; have xM2 := ext_le2
    go_enter Try.func54, Try.ntmps54
    go_wp2_with fail
    refine (A1 _).mono ?_
    rintro e w4c ⟨rfl, hb4c⟩
    obtain ⟨l4c, d4c, rfl⟩ := toExt hb4c
    clear hb4c
    go_wp2
    refine bodyPost_ret (by simp [results, Try.results54, go_sem, ext_ext, ext_cell]; try rfl) rfl ?_
    exact ⟨ret_sp R1.out.symm R2.out.symm R3.out.symm, by (repeat (first | with_reducible exact b0 _ | (with_reducible refine bext ?_ _ _) | (with_reducible refine below_drewN ?_ _) | (with_reducible refine Below.drew ?_) | (with_reducible refine bal ?_ _)))⟩

set_option maxHeartbeats 400000 in
theorem sine_Add (a b c d : Int) (w : World) :
    Calls Try.prog 56 #[.agg #[.int .i64 a, .int .i64 b], .agg #[.int .i64 c, .int .i64 d]] w fun e w' => e = .returned (.tuple #[.agg #[.int .i64 (saL a b c d), .int .i64 (saH a b c d)], .int .i64 (saE a b c d)]) ∧ Below w.heap.size w w' := by
  have A1 := fun w => sine_checkBoth a b c d w
  by_cases hb : bV a b c d = true
  · have hc : cbE a b c d = 0 := by rw [cbE, if_pos hb]
    rw [hc] at A1
    obtain ⟨v1, v2⟩ := bV_out hb
    obtain ⟨k1, k2, k3⟩ := spV_out v1
    obtain ⟨k4, k5, k6⟩ := spV_out v2
    have r1 : saL a b c d = mdL (a + c) (b + d) := by rw [saL, if_pos hb]
    have r2 : saH a b c d = mdH (a + c) (b + d) := by rw [saH, if_pos hb]
    have r3 : saE a b c d = mdE (a + c) (b + d) := by rw [saE, if_pos hb]
    have A2 := fun w => sine_result (a + c) (b + d) w
    rw [r1, r2, r3]
    generalize mdL (a + c) (b + d) = x at *
    generalize mdH (a + c) (b + d) = y at *
    generalize mdE (a + c) (b + d) = z at *
    clear r1 r2 r3 hb hc v1 v2
    have dAl := dAl; have dSt := dSt; have xC := ext_cell; have xF := ext_frozen; have xS := ext_set; have xN := ext_drewN; have xD := ext_drew; have xL := ext_lt; have xE := ext_ne; have xG := ext_nr; have xX := ext_ext; have xL1 := ext_lt1; have xL2 := ext_lt2; have xL3 := ext_lt3; have xM0 := ext_le0; have xM1 := ext_le1; have xM2 := ext_le2
    go_enter Try.func56, Try.ntmps56
    go_wp2_with fail
    refine (A1 _).mono ?_
    rintro e w5c ⟨rfl, hb5c⟩
    obtain ⟨l5c, d5c, rfl⟩ := toExt hb5c
    clear hb5c
    go_wp2_with fail
    refine (A2 _).mono ?_
    rintro e w6c ⟨rfl, hb6c⟩
    obtain ⟨l6c, d6c, rfl⟩ := toExt hb6c
    clear hb6c
    go_wp2
    refine bodyPost_ret (by simp [results, Try.results56, go_sem, ext_ext, ext_cell]; try rfl) rfl ?_
    exact ⟨rfl, by (repeat (first | with_reducible exact b0 _ | (with_reducible refine bext ?_ _ _) | (with_reducible refine below_drewN ?_ _) | (with_reducible refine Below.drew ?_) | (with_reducible refine bal ?_ _)))⟩
  · have hc : cbE a b c d = 8 := by rw [cbE, if_neg hb]
    have r1 : saL a b c d = 0 := by rw [saL, if_neg hb]
    have r2 : saH a b c d = 0 := by rw [saH, if_neg hb]
    have r3 : saE a b c d = 8 := by rw [saE, if_neg hb]
    rw [hc] at A1
    rw [r1, r2, r3]
    clear r1 r2 r3 hc hb
    have dAl := dAl; have dSt := dSt; have xC := ext_cell; have xF := ext_frozen; have xS := ext_set; have xN := ext_drewN; have xD := ext_drew; have xL := ext_lt; have xE := ext_ne; have xG := ext_nr; have xX := ext_ext; have xL1 := ext_lt1; have xL2 := ext_lt2; have xL3 := ext_lt3; have xM0 := ext_le0; have xM1 := ext_le1; have xM2 := ext_le2
    go_enter Try.func56, Try.ntmps56
    go_wp2_with fail
    refine (A1 _).mono ?_
    rintro e w7c ⟨rfl, hb7c⟩
    obtain ⟨l7c, d7c, rfl⟩ := toExt hb7c
    clear hb7c
    go_wp2
    refine bodyPost_ret (by simp [results, Try.results56, go_sem, ext_ext, ext_cell]; try rfl) rfl ?_
    exact ⟨rfl, by (repeat (first | with_reducible exact b0 _ | (with_reducible refine bext ?_ _ _) | (with_reducible refine below_drewN ?_ _) | (with_reducible refine Below.drew ?_) | (with_reducible refine bal ?_ _)))⟩

set_option maxHeartbeats 400000 in
theorem sine_Sign (a b : Int) (w : World) :
    Calls Try.prog 47 #[.agg #[.int .i64 a, .int .i64 b]] w fun e w' => e = .returned (.tuple #[.int .i64 (sgV a b), .int .i64 (sgE a b)]) ∧ Below w.heap.size w w' := by
  have A1 := fun w => sine_valid a b w
  by_cases hb : spV a b = true
  · obtain ⟨k1, k2, k3⟩ := spV_out hb
    rw [hb] at A1
    have r1 : sgV a b = if 0 < a then 1 else if b < 0 then -1 else 0 := by rw [sgV, if_pos hb]
    have r2 : sgE a b = if 0 < a then 0 else if b < 0 then 0 else if a = 0 ∧ b = 0 then 0 else 24 := by rw [sgE, if_pos hb]
    rw [r1, r2]
    clear r1 r2 hb
    have dAl := dAl; have dSt := dSt; have xC := ext_cell; have xF := ext_frozen; have xS := ext_set; have xN := ext_drewN; have xD := ext_drew; have xL := ext_lt; have xE := ext_ne; have xG := ext_nr; have xX := ext_ext; have xL1 := ext_lt1; have xL2 := ext_lt2; have xL3 := ext_lt3; have xM0 := ext_le0; have xM1 := ext_le1; have xM2 := ext_le2
    go_enter Try.func47, Try.ntmps47
    go_wp2_with fail
    refine (A1 _).mono ?_
    rintro e w8c ⟨rfl, hb8c⟩
    obtain ⟨l8c, d8c, rfl⟩ := toExt hb8c
    clear hb8c
    go_wp2
    all_goals go_ret2
    all_goals exact ⟨ret_s2 (by simp [*]; try omega) (by simp [*]; try omega), by (repeat (first | with_reducible exact b0 _ | (with_reducible refine bext ?_ _ _) | (with_reducible refine below_drewN ?_ _) | (with_reducible refine Below.drew ?_) | (with_reducible refine bal ?_ _)))⟩
  · have hb' : spV a b = false := by simpa using hb
    rw [hb'] at A1
    have r1 : sgV a b = 0 := by rw [sgV, if_neg hb]
    have r2 : sgE a b = 8 := by rw [sgE, if_neg hb]
    rw [r1, r2]
    clear r1 r2 hb hb'
    have dAl := dAl; have dSt := dSt; have xC := ext_cell; have xF := ext_frozen; have xS := ext_set; have xN := ext_drewN; have xD := ext_drew; have xL := ext_lt; have xE := ext_ne; have xG := ext_nr; have xX := ext_ext; have xL1 := ext_lt1; have xL2 := ext_lt2; have xL3 := ext_lt3; have xM0 := ext_le0; have xM1 := ext_le1; have xM2 := ext_le2
    go_enter Try.func47, Try.ntmps47
    go_wp2_with fail
    refine (A1 _).mono ?_
    rintro e w9c ⟨rfl, hb9c⟩
    obtain ⟨l9c, d9c, rfl⟩ := toExt hb9c
    clear hb9c
    go_wp2
    go_ret2
    exact ⟨rfl, by (repeat (first | with_reducible exact b0 _ | (with_reducible refine bext ?_ _ _) | (with_reducible refine below_drewN ?_ _) | (with_reducible refine Below.drew ?_) | (with_reducible refine bal ?_ _)))⟩
end Go.Proofs.Ytmjbeplcabomdaa
