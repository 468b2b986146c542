/-
  What the code does with enclosures: products.
-/
import Derived.Test.YtmjbeplcabomdaaSa
import Derived.Deep.RegionLaw
namespace Go.Proofs.Ytmjbeplcabomdaa
open Go.RowKit
set_option linter.unusedVariables false
set_option linter.unusedSimpArgs false

set_option maxHeartbeats 400000 in
theorem sine_Mul (a b c d : Int) (w : World) :
    Calls Try.prog 36 #[.agg #[.int .i64 a, .int .i64 b], .agg #[.int .i64 c, .int .i64 d]] w fun e w' => e = .returned (.tuple #[.agg #[.int .i64 (smL a b c d), .int .i64 (smH a b c d)], .int .i64 (smE a b c d)]) ∧ Below w.heap.size w w' := by
  have A1 := fun w => sine_checkBoth a b c d w
  by_cases hb : bV a b c d = true
  · have hc : cbE a b c d = 0 := by rw [cbE, if_pos hb]
    rw [hc] at A1
    obtain ⟨v1, v2⟩ := bV_out hb
    obtain ⟨k1, k2, k3⟩ := spV_out v1
    obtain ⟨k4, k5, k6⟩ := spV_out v2
    have r1 : smL a b c d = mdL (pL a b c d) (pH a b c d) := by rw [smL, if_pos hb]
    have r2 : smH a b c d = mdH (pL a b c d) (pH a b c d) := by rw [smH, if_pos hb]
    have r3 : smE a b c d = mdE (pL a b c d) (pH a b c d) := by rw [smE, if_pos hb]
    have m1 := mul4_bd k2 (Int.le_trans k1 k3) k5 (Int.le_trans k4 k6)
    have m2 := mul4_bd k2 (Int.le_trans k1 k3) (Int.le_trans k5 k4) k6
    have m3 := mul4_bd (Int.le_trans k2 k1) k3 k5 (Int.le_trans k4 k6)
    have m4 := mul4_bd (Int.le_trans k2 k1) k3 (Int.le_trans k5 k4) k6
    have A2 := fun w => sine_result (pL a b c d) (pH a b c d) w
    have A3 := fun x h0 h1 w => sine_floor x h0 h1 w
    rw [r1, r2, r3]
    unfold pL pH mn4 mx4 at *
    have L1 := mi4_bd m1 m2 m3 m4
    have L2 := ma4_bd m1 m2 m3 m4
    clear r1 r2 r3 hb hc v1 v2
    have dAl := dAl; have dSt := dSt; have xC := ext_cell; have xF := ext_frozen; have xS := ext_set; have xN := ext_drewN; have xD := ext_drew; have xL := ext_lt; have xE := ext_ne; have xG := ext_nr; have xX := ext_ext; have xL1 := ext_lt1; have xL2 := ext_lt2; have xL3 := ext_lt3; have xM0 := ext_le0; have xM1 := ext_le1; have xM2 := ext_le2
    go_enter Try.func36, Try.ntmps36
    go_wp2_with fail
    refine (A1 _).mono ?_
    rintro e w1c ⟨rfl, hb1c⟩
    obtain ⟨l1c, d1c, rfl⟩ := toExt hb1c
    clear hb1c
    go_wp2_with fail
    go_quiet (fail)
    clear A1 k1 k2 k3 k4 k5 k6 m1 m2 m3 m4
    have M1 := run_min4
    have M2 := run_max4
    have F1 := fun w => sine_floor (mi4 (a * c) (a * d) (b * c) (b * d)) (by omega) (by omega) w
    have F2 := fun w => sine_floor (-ma4 (a * c) (a * d) (b * c) (b * d)) (by omega) (by omega) w
    have W1 : IntKind.i64.wrap (-ma4 (a * c) (a * d) (b * c) (b * d)) = -ma4 (a * c) (a * d) (b * c) (b * d) := IntWalk.i64_in _ (by omega)
    have W2 : IntKind.i64.wrap (-(-ma4 (a * c) (a * d) (b * c) (b * d) / 1000000)) = -(-ma4 (a * c) (a * d) (b * c) (b * d) / 1000000) := IntWalk.i64_in _ (by omega)
    go_wp2_with fail
    with_reducible refine (F1 _).mono ?_
    rintro e w1 ⟨rfl, rfl⟩
    go_wp2_with fail
    with_reducible refine (F2 _).mono ?_
    rintro e w1 ⟨rfl, rfl⟩
    go_wp2_with fail
    refine (A2 _).mono ?_
    rintro e w2c ⟨rfl, hb2c⟩
    obtain ⟨l2c, d2c, rfl⟩ := toExt hb2c
    clear hb2c
    go_wp2
    refine bodyPost_ret (by simp [results, Try.results36, go_sem, ext_ext, ext_cell]; try rfl) rfl ?_
    exact ⟨rfl, by (repeat (first | with_reducible exact b0 _ | (with_reducible refine bext ?_ _ _) | (with_reducible refine below_drewN ?_ _) | (with_reducible refine Below.drew ?_) | (with_reducible refine bal ?_ _)))⟩
  · have hc : cbE a b c d = 8 := by rw [cbE, if_neg hb]
    have r1 : smL a b c d = 0 := by rw [smL, if_neg hb]
    have r2 : smH a b c d = 0 := by rw [smH, if_neg hb]
    have r3 : smE a b c d = 8 := by rw [smE, if_neg hb]
    rw [hc] at A1
    rw [r1, r2, r3]
    clear r1 r2 r3 hc hb
    have dAl := dAl; have dSt := dSt; have xC := ext_cell; have xF := ext_frozen; have xS := ext_set; have xN := ext_drewN; have xD := ext_drew; have xL := ext_lt; have xE := ext_ne; have xG := ext_nr; have xX := ext_ext; have xL1 := ext_lt1; have xL2 := ext_lt2; have xL3 := ext_lt3; have xM0 := ext_le0; have xM1 := ext_le1; have xM2 := ext_le2
    go_enter Try.func36, Try.ntmps36
    go_wp2_with fail
    refine (A1 _).mono ?_
    rintro e w3c ⟨rfl, hb3c⟩
    obtain ⟨l3c, d3c, rfl⟩ := toExt hb3c
    clear hb3c
    go_wp2
    refine bodyPost_ret (by simp [results, Try.results36, go_sem, ext_ext, ext_cell]; try rfl) rfl ?_
    exact ⟨rfl, by (repeat (first | with_reducible exact b0 _ | (with_reducible refine bext ?_ _ _) | (with_reducible refine below_drewN ?_ _) | (with_reducible refine Below.drew ?_) | (with_reducible refine bal ?_ _)))⟩
end Go.Proofs.Ytmjbeplcabomdaa
