/-
  What the reference does with fractions: their enclosures, digit by digit, and which enclosure has one.
-/
import Derived.Test.YtilcgbloangcmaaSd
import Derived.Test.YtilcgbloangcmaaFs
import Derived.Test.YtilcgbloangcmaaFxm
import Derived.Test.YtilcgbloangcmaaFl2
namespace Go.Proofs.Ytilcgbloangcmaa
open Go.RowKit
set_option linter.unusedVariables false
set_option linter.unusedSimpArgs false

set_option maxHeartbeats 800000 in
theorem ref5_Of (n d : Int) (a1 : -9223372036854775808 ≤ n) (a2 : n ≤ 9223372036854775807) (a3 : -9223372036854775808 ≤ d) (a4 : d ≤ 9223372036854775807) (w : World) :
    Calls Try.prog 26 #[.agg #[.int .i64 n, .int .i64 d]] w fun e w' => e = .returned (.tuple #[.agg #[.int .i64 (ovL n d), .int .i64 (ovH n d)], .int .i64 (ovE n d)]) ∧ Below w.heap.size w w' := by
  have A1 := fun w => ref_Check n d a1 a2 a3 a4 w
  by_cases ho : okF n d = true
  · have hc : chkI n d = 0 := by rw [chkI, if_pos ho]
    rw [hc] at A1
    obtain ⟨o1, o2, o3, o4, o5⟩ := okF_out ho
    have r1 : ovL n d = mdL (ofL n d) (ofH n d) := by rw [ovL, if_pos ho]
    have r2 : ovH n d = mdH (ofL n d) (ofH n d) := by rw [ovH, if_pos ho]
    have r3 : ovE n d = mdE (ofL n d) (ofH n d) := by rw [ovE, if_pos ho]
    rw [r1, r2, r3]
    have hp := of_part n d (n / d) (n % d) o1 (by rw [Int.mul_comm]; exact (Int.mul_ediv_add_emod n d).symm)
    have b1 := Int.emod_nonneg n (show d ≠ 0 by omega)
    have b2 := Int.emod_lt_of_pos n (show 0 < d by omega)
    have b3 := Int.mul_ediv_add_emod n d
    have hw := of_wid n d
    have hd0 : 0 ≤ n % d * 1000000 / d := Int.ediv_nonneg (by omega) (by omega)
    have hd1 : n % d * 1000000 / d < 1000000 := Int.ediv_lt_of_lt_mul (by omega) (by omega)
    have hl : n / d * 1000000 ≤ ofL n d ∧ ofL n d < n / d * 1000000 + 1000000 := by rw [hp.1]; omega
    have A2 := fun w => ref5_down n d (by omega) (by omega) o1 (by omega) w
    have q1 : n / d * d = n - n % d := by rw [Int.mul_comm]; omega
    have i0 := q1
    clear r1 r2 r3 hp ho hc o5 b3 hd0 hd1
    generalize n % d = r at *
    generalize n / d = q at *
    have W1 : IntKind.i64.wrap (q * d) = n - r := by rw [q1]; exact IntWalk.i64_in _ (by omega)
    have W2 : IntKind.i64.wrap (n - (n - r)) = r := by rw [IntWalk.i64_in _ (by omega)]; omega
    have W3 : IntKind.u64.wrap r = r := by rw [IntKind.wrap_u64]; omega
    by_cases k1 : q < -3000000000
    · have hs : spV (ofL n d) (ofH n d) = false := by simp [spV]; omega
      have r1 : mdL (ofL n d) (ofH n d) = 0 := by rw [mdL, if_neg (by rw [hs]; decide)]
      have r2 : mdH (ofL n d) (ofH n d) = 0 := by rw [mdH, if_neg (by rw [hs]; decide)]
      have r3 : mdE (ofL n d) (ofH n d) = 16 := by rw [mdE, if_neg (by rw [hs]; decide)]
      rw [r1, r2, r3]
      clear r1 r2 r3 hs q1 hl hw
      clear i0
      have dAl := dAl; have dSt := dSt; have xC := ext_cell; have xF := ext_frozen; have xS := ext_set; have xN := ext_drewN; have xD := ext_drew; have xL := ext_lt; have xE := ext_ne; have xG := ext_nr; have xX := ext_ext; have xL1 := ext_lt1; have xL2 := ext_lt2; have xL3 := ext_lt3; have xM0 := ext_le0; have xM1 := ext_le1; have xM2 := ext_le2
      go_enter Try.func26, Try.ntmps26
      go_wp2_with fail
      refine (A1 _).mono ?_
      rintro e w1c ⟨rfl, hb1c⟩
      obtain ⟨l1c, d1c, rfl⟩ := toExt hb1c
      clear hb1c
      go_wp2_with fail
      with_reducible refine (A2 _).mono ?_
      rintro e w1 ⟨rfl, rfl⟩
      go_wp2
      refine bodyPost_ret (by simp [results, Try.results26, go_sem, ext_ext, ext_cell]; try rfl) rfl ?_
      exact ⟨rfl, by (repeat (first | with_reducible exact b0 _ | (with_reducible refine bext ?_ _ _) | (with_reducible refine below_drewN ?_ _) | (with_reducible refine Below.drew ?_) | (with_reducible refine bal ?_ _)))⟩
    · by_cases k2 : 3000000000 < q
      · have hs : spV (ofL n d) (ofH n d) = false := by simp [spV]; omega
        have r1 : mdL (ofL n d) (ofH n d) = 0 := by rw [mdL, if_neg (by rw [hs]; decide)]
        have r2 : mdH (ofL n d) (ofH n d) = 0 := by rw [mdH, if_neg (by rw [hs]; decide)]
        have r3 : mdE (ofL n d) (ofH n d) = 16 := by rw [mdE, if_neg (by rw [hs]; decide)]
        rw [r1, r2, r3]
        clear r1 r2 r3 hs q1 hl hw
        clear i0
        have dAl := dAl; have dSt := dSt; have xC := ext_cell; have xF := ext_frozen; have xS := ext_set; have xN := ext_drewN; have xD := ext_drew; have xL := ext_lt; have xE := ext_ne; have xG := ext_nr; have xX := ext_ext; have xL1 := ext_lt1; have xL2 := ext_lt2; have xL3 := ext_lt3; have xM0 := ext_le0; have xM1 := ext_le1; have xM2 := ext_le2
        go_enter Try.func26, Try.ntmps26
        go_wp2_with fail
        refine (A1 _).mono ?_
        rintro e w2c ⟨rfl, hb2c⟩
        obtain ⟨l2c, d2c, rfl⟩ := toExt hb2c
        clear hb2c
        go_wp2_with fail
        with_reducible refine (A2 _).mono ?_
        rintro e w1 ⟨rfl, rfl⟩
        go_wp2
        refine bodyPost_ret (by simp [results, Try.results26, go_sem, ext_ext, ext_cell]; try rfl) rfl ?_
        exact ⟨rfl, by (repeat (first | with_reducible exact b0 _ | (with_reducible refine bext ?_ _ _) | (with_reducible refine below_drewN ?_ _) | (with_reducible refine Below.drew ?_) | (with_reducible refine bal ?_ _)))⟩
      · have I0 := Lib.hid (show q * d + r = n * 1 by omega)
        have hh : ofH n d = if n * 1000000 % d = 0 then ofL n d else ofL n d + 1 := rfl
        have HH := Lib.hid hh
        clear q1 i0 hh
        generalize hR1 : mdL (ofL n d) (ofH n d) = x at *
        generalize hR2 : mdH (ofL n d) (ofH n d) = y at *
        generalize hR3 : mdE (ofL n d) (ofH n d) = z at *
        have R1 := Lib.hid hR1; have R2 := Lib.hid hR2; have R3 := Lib.hid hR3
        clear hR1 hR2 hR3
        have HL := Lib.hid hl
        have HW := Lib.hid hw
        clear hl hw
        have dAl := dAl; have dSt := dSt; have xC := ext_cell; have xF := ext_frozen; have xS := ext_set; have xN := ext_drewN; have xD := ext_drew; have xL := ext_lt; have xE := ext_ne; have xG := ext_nr; have xX := ext_ext; have xL1 := ext_lt1; have xL2 := ext_lt2; have xL3 := ext_lt3; have xM0 := ext_le0; have xM1 := ext_le1; have xM2 := ext_le2
        go_enter Try.func26, Try.ntmps26
        go_wp2_with fail
        refine (A1 _).mono ?_
        rintro e w3c ⟨rfl, hb3c⟩
        obtain ⟨l3c, d3c, rfl⟩ := toExt hb3c
        clear hb3c
        go_wp2_with fail
        with_reducible refine (A2 _).mono ?_
        rintro e w1 ⟨rfl, rfl⟩
        go_wp2
        go_loop [4, 5, 6] (fun nn rr ii => ∃ (k : Nat) (n1 r1 p : Int), k ≤ 6 ∧ p = 10 ^ k ∧ nn = .int .i64 n1 ∧ rr = .int .u64 r1 ∧ ii = .int .i64 k ∧ Hid (n1 * d + r1 = n * p) ∧ 0 ≤ r1 ∧ r1 < d ∧ -3000000000 * p ≤ n1 ∧ n1 + 1 ≤ 3000000001 * p ∧ 1 ≤ p ∧ p ≤ 1000000) (fun _ _ ii => 6 - (intOf ii).toNat)
        case atStart => exact ⟨0, q, r, 1, by omega, by simp, rfl, rfl, rfl, I0, by omega, by omega, by omega, by omega, by omega, by omega⟩
        case round =>
          clear W1 W2 W3
          obtain ⟨k, n1, r1, p, hk, hp, rfl, rfl, rfl, hI, u1, u2, u3, u4, u5, u6⟩ := hrel
          by_cases hlt : k < 6
          · have hp2 : p * 10 ≤ 1000000 ∧ p * 10 = 10 ^ (k + 1) := by
              rcases (show k = 0 ∨ k = 1 ∨ k = 2 ∨ k = 3 ∨ k = 4 ∨ k = 5 by omega) with h | h | h | h | h | h <;> subst h <;> subst hp <;> decide
            obtain ⟨u7, u8⟩ := hp2
            have U8 := Lib.hid u8
            have st := Lib.hid (step10 d n n1 r1 p o1 hI)
            have v1 : 0 ≤ r1 * 10 / d := Int.ediv_nonneg (by omega) (by omega)
            have v2 : r1 * 10 / d < 10 := Int.ediv_lt_of_lt_mul (by omega) (by omega)
            have v3 := Int.emod_nonneg (r1 * 10) (show d ≠ 0 by omega)
            have v4 := Int.emod_lt_of_pos (r1 * 10) (show 0 < d by omega)
            clear hp u8
            generalize hq : r1 * 10 / d = Q at *
            generalize hm : r1 * 10 % d = M at *
            go_wp2
            go_round
            case rel => exact ⟨k + 1, 10 * n1 + Q, M, p * 10, by omega, U8.out, by first | rfl | rw [hq], by first | rfl | rw [hm], by go_num, st, by omega, by omega, by omega, by omega, by omega, by omega⟩
            case measure => simp [intOf]; omega
          · have hk6 : k = 6 := by omega
            subst hk6
            have hp6 : p = 1000000 := by rw [hp]; decide
            subst hp6
            obtain ⟨f1, f2⟩ := of_end d n n1 r1 o1 u1 u2 hI
            have HF1 := Lib.hid f1
            have HF2 := Lib.hid f2
            have A3 := fun w => ref5_made n1 n1 w
            have A4 := fun w => ref5_made n1 (n1 + 1) w
            clear f1 f2 hp
            by_cases hr0 : r1 = 0
            · have hz : decide (0 < r1) = false := by simp; omega
              have hz' : (0 < r1) = False := by simp; omega
              have E1 : ofH n d = n1 := by rw [HH.out, if_pos (by rw [← HF2.out]; exact hr0), ← HF1.out]
              have HE := Lib.hid E1
              clear E1 hr0
              go_wp2_with fail
              refine (A3 _).mono ?_
              rintro e w4c ⟨rfl, hb4c⟩
              obtain ⟨l4c, d4c, rfl⟩ := toExt hb4c
              clear hb4c
              go_wp2
              refine bodyPost_ret (by simp [results, Try.results26, go_sem, ext_ext, ext_cell]; try rfl) rfl ?_
              exact ⟨ret_sp (by rw [← R1.out, HE.out, ← HF1.out]) (by rw [← R2.out, HE.out, ← HF1.out]) (by rw [← R3.out, HE.out, ← HF1.out]), by (repeat (first | with_reducible exact b0 _ | (with_reducible refine bext ?_ _ _) | (with_reducible refine below_drewN ?_ _) | (with_reducible refine Below.drew ?_) | (with_reducible refine bal ?_ _)))⟩
            · have hz : decide (0 < r1) = true := by simp; omega
              have hz' : (0 < r1) = True := by simp; omega
              have E1 : ofH n d = n1 + 1 := by rw [HH.out, if_neg (by rw [← HF2.out]; exact hr0), ← HF1.out]
              have HE := Lib.hid E1
              clear E1 hr0
              go_wp2_with fail
              refine (A4 _).mono ?_
              rintro e w5c ⟨rfl, hb5c⟩
              obtain ⟨l5c, d5c, rfl⟩ := toExt hb5c
              clear hb5c
              go_wp2
              refine bodyPost_ret (by simp [results, Try.results26, go_sem, ext_ext, ext_cell]; try rfl) rfl ?_
              exact ⟨ret_sp (by rw [← R1.out, HE.out, ← HF1.out]) (by rw [← R2.out, HE.out, ← HF1.out]) (by rw [← R3.out, HE.out, ← HF1.out]), by (repeat (first | with_reducible exact b0 _ | (with_reducible refine bext ?_ _ _) | (with_reducible refine below_drewN ?_ _) | (with_reducible refine Below.drew ?_) | (with_reducible refine bal ?_ _)))⟩
  · have hc : chkI n d = 8 := by rw [chkI, if_neg ho]
    have r1 : ovL n d = 0 := by rw [ovL, if_neg ho]
    have r2 : ovH n d = 0 := by rw [ovH, if_neg ho]
    have r3 : ovE n d = 8 := by rw [ovE, if_neg ho]
    rw [hc] at A1
    rw [r1, r2, r3]
    clear r1 r2 r3 hc ho
    have dAl := dAl; have dSt := dSt; have xC := ext_cell; have xF := ext_frozen; have xS := ext_set; have xN := ext_drewN; have xD := ext_drew; have xL := ext_lt; have xE := ext_ne; have xG := ext_nr; have xX := ext_ext; have xL1 := ext_lt1; have xL2 := ext_lt2; have xL3 := ext_lt3; have xM0 := ext_le0; have xM1 := ext_le1; have xM2 := ext_le2
    go_enter Try.func26, Try.ntmps26
    go_wp2_with fail
    refine (A1 _).mono ?_
    rintro e w6c ⟨rfl, hb6c⟩
    obtain ⟨l6c, d6c, rfl⟩ := toExt hb6c
    clear hb6c
    go_wp2
    refine bodyPost_ret (by simp [results, Try.results26, go_sem, ext_ext, ext_cell]; try rfl) rfl ?_
    exact ⟨rfl, by (repeat (first | with_reducible exact b0 _ | (with_reducible refine bext ?_ _ _) | (with_reducible refine below_drewN ?_ _) | (with_reducible refine Below.drew ?_) | (with_reducible refine bal ?_ _)))⟩
end Go.Proofs.Ytilcgbloangcmaa
