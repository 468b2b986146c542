/-
  What the code does with fractions: their enclosures, and which enclosure has one.
-/
import Derived.Test.YtmjbeplcabomdaaSb
import Derived.Test.YtmjbeplcabomdaaSo
import Derived.Test.YtmjbeplcabomdaaFxs
import Derived.Test.YtmjbeplcabomdaaFd
namespace Go.Proofs.Ytmjbeplcabomdaa
open Go.RowKit
set_option linter.unusedVariables false
set_option linter.unusedSimpArgs false

theorem mul64I (x y : Int) (h0 : 0 ≤ x) (h1 : x < 18446744073709551616) (i0 : 0 ≤ y) (i1 : y < 18446744073709551616) (w : World) :
    Calls Try.prog 84 #[.int .u64 x, .int .u64 y] w fun e w' => e = .returned (.tuple #[.int .u64 (hiI (x * y)), .int .u64 (loI (x * y))]) ∧ w' = w := by
  have hm := Try.bits_Mul64 x.toNat y.toNat (by omega) (by omega) w
  rw [Int.toNat_of_nonneg h0, Int.toNat_of_nonneg i0] at hm
  refine hm.mono fun e w' h => ?_
  obtain ⟨rfl, rfl⟩ := h
  refine ⟨?_, rfl⟩
  unfold hiI loI
  congr 5 <;> simp [Int.toNat_of_nonneg h0, Int.toNat_of_nonneg i0]

set_option maxHeartbeats 400000 in
theorem sine_share (x y z : Int) (h0 : 0 ≤ x) (h1 : x < 18446744073709551616) (i0 : 0 ≤ y) (i1 : y < 18446744073709551616) (j0 : 0 < z) (j1 : z < 18446744073709551616) (hq : x * y < z * 18446744073709551616) (w : World) :
    Calls Try.prog 69 #[.int .u64 x, .int .u64 y, .int .u64 z] w fun e w' => e = .returned (.tuple #[.int .u64 (x * y / z), .int .u64 (x * y % z)]) ∧ ∃ n, w' = w.drewN n := by
  have A1 := fun w => mul64I x y h0 h1 i0 i1 w
  have m0 := Int.mul_nonneg h0 i0
  have e1 : hiI (x * y) * 18446744073709551616 + loI (x * y) = x * y := by unfold hiI loI; omega
  have l1 : 0 ≤ hiI (x * y) ∧ hiI (x * y) < z ∧ 0 ≤ loI (x * y) ∧ loI (x * y) < 18446744073709551616 := by unfold hiI loI; omega
  have A2 := fun w => bits_Div64 (hiI (x * y)) (loI (x * y)) z l1.1 l1.2.1 j1 l1.2.2.1 l1.2.2.2 w
  rw [e1] at A2
  generalize hiI (x * y) = p at *
  generalize loI (x * y) = q at *
  generalize x * y / z = r at *
  generalize x * y % z = s at *
  clear e1 l1 m0 hq
  go_enter Try.func69, Try.ntmps69
  go_wp2_with fail
  with_reducible refine (A1 _).mono ?_
  rintro e w1 ⟨rfl, rfl⟩
  go_wp2_with fail
  with_reducible refine (A2 _).mono ?_
  rintro e w1 ⟨rfl, n, rfl⟩
  go_wp2
  go_ret2
  exact ⟨rfl, n, rfl⟩

set_option maxHeartbeats 400000 in
theorem sine_Of (n d : Int) (a1 : -9223372036854775808 ≤ n) (a2 : n ≤ 9223372036854775807) (a3 : -9223372036854775808 ≤ d) (a4 : d ≤ 9223372036854775807) (w : World) :
    Calls Try.prog 50 #[.agg #[.int .i64 n, .int .i64 d]] w fun e w' => e = .returned (.tuple #[.agg #[.int .i64 (ovL n d), .int .i64 (ovH n d)], .int .i64 (ovE n d)]) ∧ Below w.heap.size w w' := by
  have A1 := fun w => frac_Floor n d a1 a2 a3 a4 w
  by_cases ho : okF n d = true
  · have hc : chkI n d = 0 := by rw [chkI, if_pos ho]
    have hf : flV n d = n / d := by rw [flV, if_pos ho]
    rw [hc, hf] at A1
    obtain ⟨o1, o2, o3, o4, o5⟩ := okF_out ho
    have r1 : ovL n d = mdL (ofL n d) (ofH n d) := by rw [ovL, if_pos ho]
    have r2 : ovH n d = mdH (ofL n d) (ofH n d) := by rw [ovH, if_pos ho]
    have r3 : ovE n d = mdE (ofL n d) (ofH n d) := by rw [ovE, if_pos ho]
    have hp := of_part n d (n / d) (n % d) o1 (by rw [Int.mul_comm]; exact (Int.mul_ediv_add_emod n d).symm)
    have b1 := Int.emod_nonneg n (show d ≠ 0 by omega)
    have b2 := Int.emod_lt_of_pos n (show 0 < d by omega)
    have b3 := Int.mul_ediv_add_emod n d
    have hw := of_wid n d
    have hd0 : 0 ≤ n % d * 1000000 / d := Int.ediv_nonneg (by omega) (by omega)
    have hd1 : n % d * 1000000 / d < 1000000 := Int.ediv_lt_of_lt_mul (by omega) (by omega)
    have hh : ofH n d = if n % d * 1000000 % d = 0 then ofL n d else ofL n d + 1 := by rw [ofH, hp.2]
    rw [r1, r2, r3, hh, hp.1]
    rw [hh, hp.1] at hw
    have A2 := fun w => sine_share (n % d) 1000000 d b1 (by omega) (by omega) (by omega) (by omega) (by omega) (by omega) w
    have q1 : n / d * d = n - n % d := by rw [Int.mul_comm]; omega
    clear r1 r2 r3 hh hp ho hc hf o5 b3
    generalize n % d * 1000000 / d = t at *
    generalize n % d * 1000000 % d = u at *
    generalize n % d = r at *
    generalize n / d = q at *
    by_cases k1 : q < -3000
    · have hs : spV (q * 1000000 + t) (if u = 0 then q * 1000000 + t else q * 1000000 + t + 1) = false := by simp [spV]; omega
      have r1 : mdL (q * 1000000 + t) (if u = 0 then q * 1000000 + t else q * 1000000 + t + 1) = 0 := by rw [mdL, if_neg (by rw [hs]; decide)]
      have r2 : mdH (q * 1000000 + t) (if u = 0 then q * 1000000 + t else q * 1000000 + t + 1) = 0 := by rw [mdH, if_neg (by rw [hs]; decide)]
      have r3 : mdE (q * 1000000 + t) (if u = 0 then q * 1000000 + t else q * 1000000 + t + 1) = 16 := by rw [mdE, if_neg (by rw [hs]; decide)]
      rw [r1, r2, r3]
      clear r1 r2 r3 hs A2 q1
      have dAl := dAl; have dSt := dSt; have xC := ext_cell; have xF := ext_frozen; have xS := ext_set; have xN := ext_drewN; have xD := ext_drew; have xL := ext_lt; have xE := ext_ne; have xG := ext_nr; have xX := ext_ext; have xL1 := ext_lt1; have xL2 := ext_lt2; have xL3 := ext_lt3; have xM0 := ext_le0; have xM1 := ext_le1; have xM2 := ext_le2
      go_enter Try.func50, Try.ntmps50
      go_wp2_with fail
      refine (A1 _).mono ?_
      rintro e w1c ⟨rfl, hb1c⟩
      obtain ⟨l1c, d1c, rfl⟩ := toExt hb1c
      clear hb1c
      go_wp2
      refine bodyPost_ret (by simp [results, Try.results50, go_sem, ext_ext, ext_cell]; try rfl) rfl ?_
      exact ⟨rfl, by (repeat (first | with_reducible exact b0 _ | (with_reducible refine bext ?_ _ _) | (with_reducible refine below_drewN ?_ _) | (with_reducible refine Below.drew ?_) | (with_reducible refine bal ?_ _)))⟩
    · by_cases k2 : 3000 < q
      · have hs : spV (q * 1000000 + t) (if u = 0 then q * 1000000 + t else q * 1000000 + t + 1) = false := by simp [spV]; omega
        have r1 : mdL (q * 1000000 + t) (if u = 0 then q * 1000000 + t else q * 1000000 + t + 1) = 0 := by rw [mdL, if_neg (by rw [hs]; decide)]
        have r2 : mdH (q * 1000000 + t) (if u = 0 then q * 1000000 + t else q * 1000000 + t + 1) = 0 := by rw [mdH, if_neg (by rw [hs]; decide)]
        have r3 : mdE (q * 1000000 + t) (if u = 0 then q * 1000000 + t else q * 1000000 + t + 1) = 16 := by rw [mdE, if_neg (by rw [hs]; decide)]
        rw [r1, r2, r3]
        clear r1 r2 r3 hs A2 q1
        have dAl := dAl; have dSt := dSt; have xC := ext_cell; have xF := ext_frozen; have xS := ext_set; have xN := ext_drewN; have xD := ext_drew; have xL := ext_lt; have xE := ext_ne; have xG := ext_nr; have xX := ext_ext; have xL1 := ext_lt1; have xL2 := ext_lt2; have xL3 := ext_lt3; have xM0 := ext_le0; have xM1 := ext_le1; have xM2 := ext_le2
        go_enter Try.func50, Try.ntmps50
        go_wp2_with fail
        refine (A1 _).mono ?_
        rintro e w2c ⟨rfl, hb2c⟩
        obtain ⟨l2c, d2c, rfl⟩ := toExt hb2c
        clear hb2c
        go_wp2
        refine bodyPost_ret (by simp [results, Try.results50, go_sem, ext_ext, ext_cell]; try rfl) rfl ?_
        exact ⟨rfl, by (repeat (first | with_reducible exact b0 _ | (with_reducible refine bext ?_ _ _) | (with_reducible refine below_drewN ?_ _) | (with_reducible refine Below.drew ?_) | (with_reducible refine bal ?_ _)))⟩
      · have W1 : IntKind.i64.wrap (q * d) = n - r := by rw [q1]; exact IntWalk.i64_in _ (by omega)
        have W2 : IntKind.i64.wrap (n - (n - r)) = r := by rw [IntWalk.i64_in _ (by omega)]; omega
        have W3 : IntKind.u64.wrap r = r := by rw [IntKind.wrap_u64]; omega
        have W4 : IntKind.u64.wrap d = d := by rw [IntKind.wrap_u64]; omega
        by_cases hu : u = 0
        · have hz : (u == 0) = true := by simp [hu]
          rw [if_pos hu]
          have A3 := fun w => sine_result (q * 1000000 + t) (q * 1000000 + t) w
          generalize mdL (q * 1000000 + t) (q * 1000000 + t) = x at *
          generalize mdH (q * 1000000 + t) (q * 1000000 + t) = y at *
          generalize mdE (q * 1000000 + t) (q * 1000000 + t) = z at *
          clear hu q1
          have dAl := dAl; have dSt := dSt; have xC := ext_cell; have xF := ext_frozen; have xS := ext_set; have xN := ext_drewN; have xD := ext_drew; have xL := ext_lt; have xE := ext_ne; have xG := ext_nr; have xX := ext_ext; have xL1 := ext_lt1; have xL2 := ext_lt2; have xL3 := ext_lt3; have xM0 := ext_le0; have xM1 := ext_le1; have xM2 := ext_le2
          go_enter Try.func50, Try.ntmps50
          go_wp2_with fail
          refine (A1 _).mono ?_
          rintro e w3c ⟨rfl, hb3c⟩
          obtain ⟨l3c, d3c, rfl⟩ := toExt hb3c
          clear hb3c
          go_wp2_with fail
          with_reducible refine (A2 _).mono ?_
          rintro e w9 ⟨rfl, n9, rfl⟩
          clear W1 W2 W3 W4
          go_wp2_with fail
          refine (A3 _).mono ?_
          rintro e w4c ⟨rfl, hb4c⟩
          obtain ⟨l4c, d4c, rfl⟩ := toExt hb4c
          clear hb4c
          go_wp2
          refine bodyPost_ret (by simp [results, Try.results50, go_sem, ext_ext, ext_cell]; try rfl) rfl ?_
          exact ⟨rfl, by (repeat (first | with_reducible exact b0 _ | (with_reducible refine bext ?_ _ _) | (with_reducible refine below_drewN ?_ _) | (with_reducible refine Below.drew ?_) | (with_reducible refine bal ?_ _)))⟩
        · have hz : (u == 0) = false := by simp [hu]
          rw [if_neg hu]
          have A3 := fun w => sine_result (q * 1000000 + t) (q * 1000000 + t + 1) w
          generalize mdL (q * 1000000 + t) (q * 1000000 + t + 1) = x at *
          generalize mdH (q * 1000000 + t) (q * 1000000 + t + 1) = y at *
          generalize mdE (q * 1000000 + t) (q * 1000000 + t + 1) = z at *
          clear hu q1
          have dAl := dAl; have dSt := dSt; have xC := ext_cell; have xF := ext_frozen; have xS := ext_set; have xN := ext_drewN; have xD := ext_drew; have xL := ext_lt; have xE := ext_ne; have xG := ext_nr; have xX := ext_ext; have xL1 := ext_lt1; have xL2 := ext_lt2; have xL3 := ext_lt3; have xM0 := ext_le0; have xM1 := ext_le1; have xM2 := ext_le2
          go_enter Try.func50, Try.ntmps50
          go_wp2_with fail
          refine (A1 _).mono ?_
          rintro e w5c ⟨rfl, hb5c⟩
          obtain ⟨l5c, d5c, rfl⟩ := toExt hb5c
          clear hb5c
          go_wp2_with fail
          with_reducible refine (A2 _).mono ?_
          rintro e w9 ⟨rfl, n9, rfl⟩
          clear W1 W2 W3 W4
          go_wp2_with fail
          refine (A3 _).mono ?_
          rintro e w6c ⟨rfl, hb6c⟩
          obtain ⟨l6c, d6c, rfl⟩ := toExt hb6c
          clear hb6c
          go_wp2
          refine bodyPost_ret (by simp [results, Try.results50, go_sem, ext_ext, ext_cell]; try rfl) rfl ?_
          exact ⟨rfl, by (repeat (first | with_reducible exact b0 _ | (with_reducible refine bext ?_ _ _) | (with_reducible refine below_drewN ?_ _) | (with_reducible refine Below.drew ?_) | (with_reducible refine bal ?_ _)))⟩
  · have hc : chkI n d = 8 := by rw [chkI, if_neg ho]
    have r1 : ovL n d = 0 := by rw [ovL, if_neg ho]
    have r2 : ovH n d = 0 := by rw [ovH, if_neg ho]
    have r3 : ovE n d = 8 := by rw [ovE, if_neg ho]
    rw [hc] at A1
    rw [r1, r2, r3]
    clear r1 r2 r3 hc ho
    have dAl := dAl; have dSt := dSt; have xC := ext_cell; have xF := ext_frozen; have xS := ext_set; have xN := ext_drewN; have xD := ext_drew; have xL := ext_lt; have xE := ext_ne; have xG := ext_nr; have xX := ext_ext; have xL1 := ext_lt1; have xL2 := ext_lt2; have xL3 := ext_lt3; have xM0 := ext_le0; have xM1 := ext_le1; have xM2 := ext_le2
    go_enter Try.func50, Try.ntmps50
    go_wp2_with fail
    refine (A1 _).mono ?_
    rintro e w7c ⟨rfl, hb7c⟩
    obtain ⟨l7c, d7c, rfl⟩ := toExt hb7c
    clear hb7c
    go_wp2
    refine bodyPost_ret (by simp [results, Try.results50, go_sem, ext_ext, ext_cell]; try rfl) rfl ?_
    exact ⟨rfl, by (repeat (first | with_reducible exact b0 _ | (with_reducible refine bext ?_ _ _) | (with_reducible refine below_drewN ?_ _) | (with_reducible refine Below.drew ?_) | (with_reducible refine bal ?_ _)))⟩

end Go.Proofs.Ytmjbeplcabomdaa
