/-
  What the code does with enclosures: checks, sums, differences, products, signs.
-/
import Derived.Test.YtmjbeplcabomdaaRows
import Derived.WalkKit
import Derived.WalkSpells
import Derived.WalkLawsBesides
import Derived.Lib.Hide
import Derived.Handy
import Derived.Deep.QuietTactic
import Derived.BigQuiet
import Derived.Deep.RegionHeld3
import Derived.Test.YtmjbeplcabomdaaSm
namespace Go.Proofs.Ytmjbeplcabomdaa
open Go.RowKit
set_option linter.unusedVariables false
set_option linter.unusedSimpArgs false

set_option maxHeartbeats 400000 in
theorem sine_valid (a b : Int) (w : World) :
    Calls Try.prog 66 #[.agg #[.int .i64 a, .int .i64 b]] w fun e w' => e = .returned (.bool (spV a b)) ∧ Below w.heap.size w w' := by
  go_enter Try.func66, Try.ntmps66
  go_wp2
  all_goals go_ret
  all_goals exact ⟨ret_sb (by simp [spV, *]; try omega), (Below.refl _ _).alloc (Nat.le_refl _) _⟩

set_option maxHeartbeats 400000 in
theorem sine_floor (x : Int) (h0 : -9223372036854775807 ≤ x) (h1 : x ≤ 9223372036854775807) (w : World) :
    Calls Try.prog 55 #[.int .i64 x] w fun e w' => e = .returned (.int .i64 (x / 1000000)) ∧ w' = w := by
  by_cases hx : 0 ≤ x
  · obtain ⟨q1, q2⟩ := quo_pos x 1000000 hx
    have k1 : (x.tmod 1000000 < 0) = False := by rw [q2]; simp; omega
    go_enter Try.func55, Try.ntmps55
    go_wp2
    go_ret
    exact ⟨ret_s1 (by omega), rfl⟩
  · rcases quo_neg x 1000000 (by omega) (by omega) with ⟨m, q1, q2⟩ | ⟨m, q1, q2⟩
    · have k1 : (x.tmod 1000000 < 0) = False := by rw [q2]; simp
      go_enter Try.func55, Try.ntmps55
      go_wp2
      go_ret
      exact ⟨ret_s1 (by omega), rfl⟩
    · have k1 : (x.tmod 1000000 < 0) = True := by rw [q2]; simp; omega
      go_enter Try.func55, Try.ntmps55
      go_wp2
      go_ret
      exact ⟨ret_s1 (by omega), rfl⟩

set_option maxHeartbeats 400000 in
theorem sine_checkBoth (a b c d : Int) (w : World) :
    Calls Try.prog 53 #[.agg #[.int .i64 a, .int .i64 b], .agg #[.int .i64 c, .int .i64 d]] w fun e w' => e = .returned (.int .i64 (cbE a b c d)) ∧ Below w.heap.size w w' := by
  have A1 := fun w => sine_valid a b w
  have A2 := fun w => sine_valid c d w
  have hr : cbE a b c d = if bV a b c d = true then 0 else 8 := rfl
  unfold bV at hr
  generalize cbE a b c d = r at *
  generalize spV a b = p at *
  generalize spV c d = q at *
  have HR := Lib.hid hr; clear hr
  cases p
  ·
    have dAl := dAl; have dSt := dSt; have xC := ext_cell; have xF := ext_frozen; have xS := ext_set; have xN := ext_drewN; have xD := ext_drew; have xL := ext_lt; have xE := ext_ne; have xG := ext_nr; have xX := ext_ext; have xL1 := ext_lt1; have xL2 := ext_lt2; have xL3 := ext_lt3; have xM0 := ext_le0; have xM1 := ext_le1; have xM2 := ext_le2
    go_enter Try.func53, Try.ntmps53
    go_wp2_with fail
    refine (A1 _).mono ?_
    rintro e w1c ⟨rfl, hb1c⟩
    obtain ⟨l1c, d1c, rfl⟩ := toExt hb1c
    clear hb1c
    go_wp2
    go_ret
    exact ⟨ret_s1 HR.out.symm, by (repeat (first | with_reducible exact b0 _ | (with_reducible refine bext ?_ _ _) | (with_reducible refine below_drewN ?_ _) | (with_reducible refine Below.drew ?_) | (with_reducible refine bal ?_ _)))⟩
  · cases q
    all_goals
      have dAl := dAl; have dSt := dSt; have xC := ext_cell; have xF := ext_frozen; have xS := ext_set; have xN := ext_drewN; have xD := ext_drew; have xL := ext_lt; have xE := ext_ne; have xG := ext_nr; have xX := ext_ext; have xL1 := ext_lt1; have xL2 := ext_lt2; have xL3 := ext_lt3; have xM0 := ext_le0; have xM1 := ext_le1; have xM2 := ext_le2
      go_enter Try.func53, Try.ntmps53
      go_wp2_with fail
      refine (A1 _).mono ?_
      rintro e w2c ⟨rfl, hb2c⟩
      obtain ⟨l2c, d2c, rfl⟩ := toExt hb2c
      clear hb2c
      go_wp2_with fail
      refine (A2 _).mono ?_
      rintro e w3c ⟨rfl, hb3c⟩
      obtain ⟨l3c, d3c, rfl⟩ := toExt hb3c
      clear hb3c
      go_wp2
      go_ret
      exact ⟨ret_s1 HR.out.symm, by (repeat (first | with_reducible exact b0 _ | (with_reducible refine bext ?_ _ _) | (with_reducible refine below_drewN ?_ _) | (with_reducible refine Below.drew ?_) | (with_reducible refine bal ?_ _)))⟩

set_option maxHeartbeats 400000 in
theorem sine_result (a b : Int) (w : World) :
    Calls Try.prog 54 #[.int .i64 a, .int .i64 b] w fun e w' => e = .returned (.tuple #[.agg #[.int .i64 (mdL a b), .int .i64 (mdH a b)], .int .i64 (mdE a b)]) ∧ Below w.heap.size w w' := by
  have A1 := fun w => sine_valid a b w
  have r1 : mdL a b = if spV a b = true then a else 0 := rfl
  have r2 : mdH a b = if spV a b = true then b else 0 := rfl
  have r3 : mdE a b = if spV a b = true then 0 else 16 := rfl
  generalize mdL a b = x at *
  generalize mdH a b = y at *
  generalize mdE a b = z at *
  generalize spV a b = p at *
  have R1 := Lib.hid r1; have R2 := Lib.hid r2; have R3 := Lib.hid r3
  clear r1 r2 r3
  cases p
  all_goals
    have dAl := dAl; have dSt := dSt; have xC := ext_cell; have xF := ext_frozen; have xS := ext_set; have xN := ext_drewN; have xD := ext_drew; have xL := ext_lt; have xE := ext_ne; have xG := ext_nr; have xX := ext_ext; have xL1 := ext_lt1; have xL2 := ext_lt2; have xL3 := ext_lt3; have xM0 := ext_le0; have xM1 := ext_le1; have xM2 := ext_le2
    go_enter Try.func54, Try.ntmps54
    go_wp2_with fail
    refine (A1 _).mono ?_
    rintro e w4c ⟨rfl, hb4c⟩
    obtain ⟨l4c, d4c, rfl⟩ := toExt hb4c
    clear hb4c
    go_wp2
    refine bodyPost_ret (by simp [results, Try.results54, go_sem, ext_ext, ext_cell]; try rfl) rfl ?_
    exact ⟨ret_sp R1.out.symm R2.out.symm R3.out.symm, by (repeat (first | with_reducible exact b0 _ | (with_reducible refine bext ?_ _ _) | (with_reducible refine below_drewN ?_ _) | (with_reducible refine Below.drew ?_) | (with_reducible refine bal ?_ _)))⟩

end Go.Proofs.Ytmjbeplcabomdaa
