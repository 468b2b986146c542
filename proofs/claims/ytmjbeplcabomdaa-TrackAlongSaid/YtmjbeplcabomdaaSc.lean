/-
  What the reference does with enclosures: checks, sums, differences, products, signs.
-/
import Derived.Test.YtmjbeplcabomdaaSb
namespace Go.Proofs.Ytmjbeplcabomdaa
open Go.RowKit
set_option linter.unusedVariables false
set_option linter.unusedSimpArgs false

set_option maxHeartbeats 400000 in
theorem ref5_Valid (a b : Int) (w : World) :
    Calls Try.prog 44 #[.agg #[.int .i64 a, .int .i64 b]] w fun e w' => e = .returned (.bool (spV a b)) ∧ Below w.heap.size w w' := by
  go_enter Try.func44, Try.ntmps44
  go_wp2
  all_goals go_ret
  all_goals exact ⟨ret_sb (by simp [spV, *]; try omega), (Below.refl _ _).alloc (Nat.le_refl _) _⟩

set_option maxHeartbeats 400000 in
theorem ref5_made (a b : Int) (w : World) :
    Calls Try.prog 45 #[.int .i64 a, .int .i64 b] w fun e w' => e = .returned (.tuple #[.agg #[.int .i64 (mdL a b), .int .i64 (mdH a b)], .int .i64 (mdE a b)]) ∧ Below w.heap.size w w' := by
  have A1 := fun w => ref5_Valid a b w
  have r1 : mdL a b = if spV a b = true then a else 0 := rfl
  have r2 : mdH a b = if spV a b = true then b else 0 := rfl
  have r3 : mdE a b = if spV a b = true then 0 else 16 := rfl
  generalize mdL a b = x at *
  generalize mdH a b = y at *
  generalize mdE a b = z at *
  generalize spV a b = p at *
  have R1 := Lib.hid r1; have R2 := Lib.hid r2; have R3 := Lib.hid r3
  clear r1 r2 r3
  cases p
  all_goals
    have dAl := dAl; have dSt := dSt; have xC := ext_cell; have xF := ext_frozen; have xS := ext_set; have xN := ext_drewN; have xD := ext_drew; have xL := ext_lt; have xE := ext_ne; have xG := ext_nr; have xX := ext_ext; have xL1 := ext_lt1; have xL2 := ext_lt2; have xL3 := ext_lt3; have xM0 := ext_le0; have xM1 := ext_le1; have xM2 := ext_le2
    go_enter Try.func45, Try.ntmps45
    go_wp2_with fail
    refine (A1 _).mono ?_
    rintro e w1 ⟨rfl, hb⟩
    obtain ⟨l1, d1, rfl⟩ := toExt hb
    clear hb
    go_wp2
    refine bodyPost_ret (by simp [results, Try.results45, go_sem, ext_ext, ext_cell]; try rfl) rfl ?_
    exact ⟨ret_sp R1.out.symm R2.out.symm R3.out.symm, by (repeat (first | with_reducible exact b0 _ | (with_reducible refine bext ?_ _ _) | (with_reducible refine below_drewN ?_ _) | (with_reducible refine Below.drew ?_) | (with_reducible refine bal ?_ _)))⟩

set_option maxHeartbeats 400000 in
theorem ref5_Add (a b c d : Int) (w : World) :
    Calls Try.prog 27 #[.agg #[.int .i64 a, .int .i64 b], .agg #[.int .i64 c, .int .i64 d]] w fun e w' => e = .returned (.tuple #[.agg #[.int .i64 (saL a b c d), .int .i64 (saH a b c d)], .int .i64 (saE a b c d)]) ∧ Below w.heap.size w w' := by
  have A1 := fun w => ref5_Valid a b w
  have A2 := fun w => ref5_Valid c d w
  by_cases v1 : spV a b = true
  · rw [v1] at A1
    by_cases v2 : spV c d = true
    · rw [v2] at A2
      obtain ⟨k1, k2, k3⟩ := spV_out v1
      obtain ⟨k4, k5, k6⟩ := spV_out v2
      have hb : bV a b c d = true := by rw [bV, v1, v2]; rfl
      have r1 : saL a b c d = mdL (a + c) (b + d) := by rw [saL, if_pos hb]
      have r2 : saH a b c d = mdH (a + c) (b + d) := by rw [saH, if_pos hb]
      have r3 : saE a b c d = mdE (a + c) (b + d) := by rw [saE, if_pos hb]
      have A3 := fun w => ref5_made (a + c) (b + d) w
      rw [r1, r2, r3]
      generalize mdL (a + c) (b + d) = x at *
      generalize mdH (a + c) (b + d) = y at *
      generalize mdE (a + c) (b + d) = z at *
      clear r1 r2 r3 hb v1 v2
      have dAl := dAl; have dSt := dSt; have xC := ext_cell; have xF := ext_frozen; have xS := ext_set; have xN := ext_drewN; have xD := ext_drew; have xL := ext_lt; have xE := ext_ne; have xG := ext_nr; have xX := ext_ext; have xL1 := ext_lt1; have xL2 := ext_lt2; have xL3 := ext_lt3; have xM0 := ext_le0; have xM1 := ext_le1; have xM2 := ext_le2
      go_enter Try.func27, Try.ntmps27
      go_wp2_with fail
      refine (A1 _).mono ?_
      rintro e w1c ⟨rfl, hb1c⟩
      obtain ⟨l1c, d1c, rfl⟩ := toExt hb1c
      clear hb1c
      go_wp2_with fail
      refine (A2 _).mono ?_
      rintro e w2c ⟨rfl, hb2c⟩
      obtain ⟨l2c, d2c, rfl⟩ := toExt hb2c
      clear hb2c
      go_wp2_with fail
      refine (A3 _).mono ?_
      rintro e w3c ⟨rfl, hb3c⟩
      obtain ⟨l3c, d3c, rfl⟩ := toExt hb3c
      clear hb3c
      go_wp2
      refine bodyPost_ret (by simp [results, Try.results27, go_sem, ext_ext, ext_cell]; try rfl) rfl ?_
      exact ⟨rfl, by (repeat (first | with_reducible exact b0 _ | (with_reducible refine bext ?_ _ _) | (with_reducible refine below_drewN ?_ _) | (with_reducible refine Below.drew ?_) | (with_reducible refine bal ?_ _)))⟩
    · have v2' : spV c d = false := by simpa using v2
      rw [v2'] at A2
      have hb : ¬ bV a b c d = true := by rw [bV, v1, v2']; decide
      have r1 : saL a b c d = 0 := by rw [saL, if_neg hb]
      have r2 : saH a b c d = 0 := by rw [saH, if_neg hb]
      have r3 : saE a b c d = 8 := by rw [saE, if_neg hb]
      rw [r1, r2, r3]
      clear r1 r2 r3 hb v1 v2 v2'
      have dAl := dAl; have dSt := dSt; have xC := ext_cell; have xF := ext_frozen; have xS := ext_set; have xN := ext_drewN; have xD := ext_drew; have xL := ext_lt; have xE := ext_ne; have xG := ext_nr; have xX := ext_ext; have xL1 := ext_lt1; have xL2 := ext_lt2; have xL3 := ext_lt3; have xM0 := ext_le0; have xM1 := ext_le1; have xM2 := ext_le2
      go_enter Try.func27, Try.ntmps27
      go_wp2_with fail
      refine (A1 _).mono ?_
      rintro e w4c ⟨rfl, hb4c⟩
      obtain ⟨l4c, d4c, rfl⟩ := toExt hb4c
      clear hb4c
      go_wp2_with fail
      refine (A2 _).mono ?_
      rintro e w5c ⟨rfl, hb5c⟩
      obtain ⟨l5c, d5c, rfl⟩ := toExt hb5c
      clear hb5c
      go_wp2
      refine bodyPost_ret (by simp [results, Try.results27, go_sem, ext_ext, ext_cell]; try rfl) rfl ?_
      exact ⟨rfl, by (repeat (first | with_reducible exact b0 _ | (with_reducible refine bext ?_ _ _) | (with_reducible refine below_drewN ?_ _) | (with_reducible refine Below.drew ?_) | (with_reducible refine bal ?_ _)))⟩
  · have v1' : spV a b = false := by simpa using v1
    rw [v1'] at A1
    have hb : ¬ bV a b c d = true := by rw [bV, v1']; simp
    have r1 : saL a b c d = 0 := by rw [saL, if_neg hb]
    have r2 : saH a b c d = 0 := by rw [saH, if_neg hb]
    have r3 : saE a b c d = 8 := by rw [saE, if_neg hb]
    rw [r1, r2, r3]
    clear r1 r2 r3 hb v1 v1' A2
    have dAl := dAl; have dSt := dSt; have xC := ext_cell; have xF := ext_frozen; have xS := ext_set; have xN := ext_drewN; have xD := ext_drew; have xL := ext_lt; have xE := ext_ne; have xG := ext_nr; have xX := ext_ext; have xL1 := ext_lt1; have xL2 := ext_lt2; have xL3 := ext_lt3; have xM0 := ext_le0; have xM1 := ext_le1; have xM2 := ext_le2
    go_enter Try.func27, Try.ntmps27
    go_wp2_with fail
    refine (A1 _).mono ?_
    rintro e w6c ⟨rfl, hb6c⟩
    obtain ⟨l6c, d6c, rfl⟩ := toExt hb6c
    clear hb6c
    go_wp2
    refine bodyPost_ret (by simp [results, Try.results27, go_sem, ext_ext, ext_cell]; try rfl) rfl ?_
    exact ⟨rfl, by (repeat (first | with_reducible exact b0 _ | (with_reducible refine bext ?_ _ _) | (with_reducible refine below_drewN ?_ _) | (with_reducible refine Below.drew ?_) | (with_reducible refine bal ?_ _)))⟩

end Go.Proofs.Ytmjbeplcabomdaa
