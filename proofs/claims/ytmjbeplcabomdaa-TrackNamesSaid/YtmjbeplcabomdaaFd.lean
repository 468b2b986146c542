/-
  math/bits.Div64 and Rem64: what they return.
-/
import Derived.Test.YtmjbeplcabomdaaFa
import Derived.Test.YtmjbeplcabomdaaQc
namespace Go.Proofs.Ytmjbeplcabomdaa
open Go.RowKit
set_option linter.unusedVariables false

set_option maxHeartbeats 1600000 in
theorem div64core (hi lo y s Y yn1 yn0 un un10 u1 u0 : Int) (h0 : 0 < hi) (h1 : hi < y) (h2 : y < 18446744073709551616) (l0 : 0 ≤ lo) (l1 : lo < 18446744073709551616)
    (s0 : 0 ≤ s) (s1 : s ≤ 63) (hs : ∀ w, Calls Try.prog 94 #[.int .u64 y] w fun e w' => e = .returned (.int .i64 s) ∧ w' = w)
    (eY : IntKind.u64.wrap (y * 2 ^ s.toNat) = Y) (eA : Y / 4294967296 = yn1) (eB : bits .and .u64 Y 4294967295 = yn0)
    (eU : bits .or .u64 (IntKind.u64.wrap (hi * 2 ^ s.toNat)) (lo / 2 ^ (64 - s).toNat) = un)
    (eL : IntKind.u64.wrap (lo * 2 ^ s.toNat) = un10) (eL1 : un10 / 4294967296 = u1) (eL0 : bits .and .u64 un10 4294967295 = u0)
    (a1 : 2147483648 ≤ yn1) (a2 : yn1 < 4294967296) (a3 : 0 ≤ yn0) (a4 : yn0 < 4294967296) (hY : Hid (Y = yn1 * 4294967296 + yn0))
    (c1 : 0 ≤ un) (c2 : un < Y) (c3 : Y < 18446744073709551616) (d1 : 0 ≤ u1) (d2 : u1 < 4294967296) (d3 : 0 ≤ u0) (d4 : u0 < 4294967296) (w : World) :
    Calls Try.prog 85 #[.int .u64 hi, .int .u64 lo, .int .u64 y] w fun e w' => e = .returned (.tuple #[.int .u64 ((un * 4294967296 + u1) / Y * 4294967296 + ((un * 4294967296 + u1) % Y * 4294967296 + u0) / Y), .int .u64 (((un * 4294967296 + u1) % Y * 4294967296 + u0) % Y / 2 ^ s.toNat)]) ∧ ∃ n, w' = w.drewN n := by
  have t1 : (y == 0) = false := by simp; omega
  have t2 : (hi == 0) = false := by simp; omega
  have t3 : (yn1 == 0) = false := by simp; omega
  obtain ⟨i1, i2, i3, i4, i5, i6⟩ := Dv.init yn1 yn0 Y un u1 hY.out a1 a3 a4 c1 c2 d1 d2
  generalize gq : un / yn1 = q at *
  generalize gr : un % yn1 = r at *
  have p1 : 0 ≤ q * yn1 := Int.mul_nonneg i1 (by omega)
  have p2 : un - q * yn1 = r := by omega
  have p3 : q * yn1 ≤ un := by omega
  have I5 := Lib.hid i5; have I6 := Lib.hid i6
  clear i5 i6
  go_enter Try.func85, Try.ntmps85
  go_wp2_with (go_at_call 94; refine (hs _).mono ?_; rintro e w' ⟨rfl, rfl⟩)
  have e15 : (Value.int IntKind.u64 (un / yn1)) = Value.int IntKind.u64 q := by rw [gq]
  have E15 := Lib.hid e15
  clear e15 eY eA eB eU eL eL1 eL0 gq gr p2 hs t1 t2 t3 h0 h1 h2 l0 l1
  go_loop [15, 16] (fun a b => ∃ q r : Int, a = .int .u64 q ∧ b = .int .u64 r ∧ 0 ≤ q ∧ q ≤ 4294967297 ∧ 0 ≤ r ∧ r < 4294967296 ∧ q * yn1 + r = un ∧ un * 4294967296 + u1 < (q + 1) * Y) (fun a _ => (intOf a).toNat)
  case atStart => exact ⟨q, r, E15.out, rfl, i1, i2, i3, by omega, I5.out, I6.out⟩
  case round =>
    clear E15 I5 I6 p1 p3 i1 i2 i3 i4 
    obtain ⟨q, r, rfl, rfl, i1, i2, i3, i4, I5, I6⟩ := hrel
    have J5 := Lib.hid I5; have J6 := Lib.hid I6; clear I5 I6
    by_cases hb : 4294967296 ≤ q
    ·
      have T1 : decide (4294967296 ≤ q) = true := by simpa using hb
      have JB := Dv.stepA q Y un u1 (by omega) (by omega) (by omega) hb
      have q1 : 1 ≤ q := by omega
      have J7 := Lib.hid JB; clear JB
      by_cases hr : 4294967296 ≤ r + yn1
      · have hle := Dv.brk (q - 1) (r + yn1) yn1 yn0 Y un u1 hY.out a3 a4 (by omega) (Dv.next q r yn1 un J5.out) (by omega) (by omega) hr
        have hlt : un * 4294967296 + u1 < (q - 1 + 1) * Y := by rw [Int.sub_add_cancel]; exact J7.out
        have q3 := Dv.lt_b (q - 1) Y un u1 (by omega) (by omega) (by omega) hle
        obtain ⟨dq, dm, m0, m1⟩ := Dv.digit (q - 1) Y (un * 4294967296 + u1) (by omega) hle hlt
        rw [dm] at m0 m1
        generalize gM : (un * 4294967296 + u1) % Y = M at *
        have E21 := Dv.wrap3 un u1 (q - 1) Y M dm m0 (by omega)
        have DQ := Lib.hid dq
        obtain ⟨k1, k2, k3, k4, k5, k6⟩ := Dv.init yn1 yn0 Y M u0 hY.out a1 a3 a4 m0 m1 d3 d4
        have p2 : M - M / yn1 * yn1 = M % yn1 := by omega
        have p1 : 0 ≤ M / yn1 * yn1 := Int.mul_nonneg k1 (by omega)
        have p3 : M / yn1 * yn1 ≤ M := by omega
        have K5 := Lib.hid k5; have K6 := Lib.hid k6
        have t3 : (yn1 == 0) = false := by simp; omega
        clear dq dm k5 k6 hle hlt
        go_wp2
        clear E21 p2 t3
        go_loop [18, 16] (fun a b => ∃ q r : Int, a = .int .u64 q ∧ b = .int .u64 r ∧ 0 ≤ q ∧ q ≤ 4294967297 ∧ 0 ≤ r ∧ r < 4294967296 ∧ q * yn1 + r = M ∧ M * 4294967296 + u0 < (q + 1) * Y) (fun a _ => (intOf a).toNat)
        case atStart => exact ⟨_, _, rfl, rfl, k1, k2, k3, by omega, K5.out, K6.out⟩
        case round =>
          clear K5 K6 k1 k2 k3 k4 p1 p3 J5 J6 T1
          obtain ⟨q, r, rfl, rfl, i1, i2, i3, i4, I5, I6⟩ := hrel
          have J5 := Lib.hid I5; have J6 := Lib.hid I6; clear I5 I6
          by_cases hb : 4294967296 ≤ q
          ·
            have T1 : decide (4294967296 ≤ q) = true := by simpa using hb
            have JB := Dv.stepA q Y M u0 (by omega) (by omega) (by omega) hb
            have q1 : 1 ≤ q := by omega
            have J7 := Lib.hid JB; clear JB
            by_cases hr : 4294967296 ≤ r + yn1
            · have hle := Dv.brk (q - 1) (r + yn1) yn1 yn0 Y M u0 hY.out a3 a4 (by omega) (Dv.next q r yn1 M J5.out) (by omega) (by omega) hr
              have hlt : M * 4294967296 + u0 < (q - 1 + 1) * Y := by rw [Int.sub_add_cancel]; exact J7.out
              have q3 := Dv.lt_b (q - 1) Y M u0 (by omega) (by omega) (by omega) hle
              obtain ⟨dq2, dm2, m3, m4⟩ := Dv.digit (q - 1) Y (M * 4294967296 + u0) (by omega) hle hlt
              have E22 := Dv.wrap3 M u0 (q - 1) Y _ dm2 (by omega) (by omega)
              have DQ2 := Lib.hid dq2
              clear dq2 dm2 m3 m4 hle hlt
              go_wp2
              go_ret2
              exact ⟨ret_uu (by rw [DQ.out, DQ2.out]) rfl, 0, rfl⟩
            · go_wp2
              go_round
              case rel => exact ⟨q - 1, r + yn1, rfl, rfl, by omega, by omega, by omega, by omega, Dv.next q r yn1 M J5.out, by rw [Int.sub_add_cancel]; exact J7.out⟩
              case measure => simp [intOf]; omega
          · have hb' : q ≤ 4294967295 := by omega
            have pm := Dv.mulb q yn0 i1 hb' a3 a4
            obtain ⟨pm1, pm2⟩ := pm
            by_cases ht : 4294967296 * r + u0 < q * yn0
            ·
              have T1 : decide (4294967296 ≤ q) = false := by simpa using hb
              have JB := Dv.stepB q r yn1 yn0 Y M u0 hY.out J5.out ht
              have q1 : 1 ≤ q := by
                by_cases hq0 : q = 0
                · rw [hq0, Int.zero_mul] at ht; omega
                · omega
              have J7 := Lib.hid JB; clear JB
              by_cases hr : 4294967296 ≤ r + yn1
              · have hle := Dv.brk (q - 1) (r + yn1) yn1 yn0 Y M u0 hY.out a3 a4 (by omega) (Dv.next q r yn1 M J5.out) (by omega) (by omega) hr
                have hlt : M * 4294967296 + u0 < (q - 1 + 1) * Y := by rw [Int.sub_add_cancel]; exact J7.out
                have q3 := Dv.lt_b (q - 1) Y M u0 (by omega) (by omega) (by omega) hle
                obtain ⟨dq2, dm2, m3, m4⟩ := Dv.digit (q - 1) Y (M * 4294967296 + u0) (by omega) hle hlt
                have E22 := Dv.wrap3 M u0 (q - 1) Y _ dm2 (by omega) (by omega)
                have DQ2 := Lib.hid dq2
                clear dq2 dm2 m3 m4 hle hlt
                go_wp2
                go_ret2
                exact ⟨ret_uu (by rw [DQ.out, DQ2.out]) rfl, 0, rfl⟩
              · go_wp2
                go_round
                case rel => exact ⟨q - 1, r + yn1, rfl, rfl, by omega, by omega, by omega, by omega, Dv.next q r yn1 M J5.out, by rw [Int.sub_add_cancel]; exact J7.out⟩
                case measure => simp [intOf]; omega
            · have hle := Dv.stop q r yn1 yn0 Y M u0 hY.out J5.out ht
              have hlt := J6.out
              have T1 : decide (4294967296 ≤ q) = false := by simpa using hb
              have q3 := Dv.lt_b (q) Y M u0 (by omega) (by omega) (by omega) hle
              obtain ⟨dq2, dm2, m3, m4⟩ := Dv.digit (q) Y (M * 4294967296 + u0) (by omega) hle hlt
              have E22 := Dv.wrap3 M u0 (q) Y _ dm2 (by omega) (by omega)
              have DQ2 := Lib.hid dq2
              clear dq2 dm2 m3 m4 hle hlt
              go_wp2
              go_ret2
              exact ⟨ret_uu (by rw [DQ.out, DQ2.out]) rfl, 0, rfl⟩
      · go_wp2
        go_round
        case rel => exact ⟨q - 1, r + yn1, rfl, rfl, by omega, by omega, by omega, by omega, Dv.next q r yn1 un J5.out, by rw [Int.sub_add_cancel]; exact J7.out⟩
        case measure => simp [intOf]; omega
    · have hb' : q ≤ 4294967295 := by omega
      have pm := Dv.mulb q yn0 i1 hb' a3 a4
      obtain ⟨pm1, pm2⟩ := pm
      by_cases ht : 4294967296 * r + u1 < q * yn0
      ·
        have T1 : decide (4294967296 ≤ q) = false := by simpa using hb
        have JB := Dv.stepB q r yn1 yn0 Y un u1 hY.out J5.out ht
        have q1 : 1 ≤ q := by
          by_cases hq0 : q = 0
          · rw [hq0, Int.zero_mul] at ht; omega
          · omega
        have J7 := Lib.hid JB; clear JB
        by_cases hr : 4294967296 ≤ r + yn1
        · have hle := Dv.brk (q - 1) (r + yn1) yn1 yn0 Y un u1 hY.out a3 a4 (by omega) (Dv.next q r yn1 un J5.out) (by omega) (by omega) hr
          have hlt : un * 4294967296 + u1 < (q - 1 + 1) * Y := by rw [Int.sub_add_cancel]; exact J7.out
          have q3 := Dv.lt_b (q - 1) Y un u1 (by omega) (by omega) (by omega) hle
          obtain ⟨dq, dm, m0, m1⟩ := Dv.digit (q - 1) Y (un * 4294967296 + u1) (by omega) hle hlt
          rw [dm] at m0 m1
          generalize gM : (un * 4294967296 + u1) % Y = M at *
          have E21 := Dv.wrap3 un u1 (q - 1) Y M dm m0 (by omega)
          have DQ := Lib.hid dq
          obtain ⟨k1, k2, k3, k4, k5, k6⟩ := Dv.init yn1 yn0 Y M u0 hY.out a1 a3 a4 m0 m1 d3 d4
          have p2 : M - M / yn1 * yn1 = M % yn1 := by omega
          have p1 : 0 ≤ M / yn1 * yn1 := Int.mul_nonneg k1 (by omega)
          have p3 : M / yn1 * yn1 ≤ M := by omega
          have K5 := Lib.hid k5; have K6 := Lib.hid k6
          have t3 : (yn1 == 0) = false := by simp; omega
          clear dq dm k5 k6 hle hlt
          go_wp2
          clear E21 p2 t3
          go_loop [18, 16] (fun a b => ∃ q r : Int, a = .int .u64 q ∧ b = .int .u64 r ∧ 0 ≤ q ∧ q ≤ 4294967297 ∧ 0 ≤ r ∧ r < 4294967296 ∧ q * yn1 + r = M ∧ M * 4294967296 + u0 < (q + 1) * Y) (fun a _ => (intOf a).toNat)
          case atStart => exact ⟨_, _, rfl, rfl, k1, k2, k3, by omega, K5.out, K6.out⟩
          case round =>
            clear K5 K6 k1 k2 k3 k4 p1 p3 J5 J6 T1
            obtain ⟨q, r, rfl, rfl, i1, i2, i3, i4, I5, I6⟩ := hrel
            have J5 := Lib.hid I5; have J6 := Lib.hid I6; clear I5 I6
            by_cases hb : 4294967296 ≤ q
            ·
              have T1 : decide (4294967296 ≤ q) = true := by simpa using hb
              have JB := Dv.stepA q Y M u0 (by omega) (by omega) (by omega) hb
              have q1 : 1 ≤ q := by omega
              have J7 := Lib.hid JB; clear JB
              by_cases hr : 4294967296 ≤ r + yn1
              · have hle := Dv.brk (q - 1) (r + yn1) yn1 yn0 Y M u0 hY.out a3 a4 (by omega) (Dv.next q r yn1 M J5.out) (by omega) (by omega) hr
                have hlt : M * 4294967296 + u0 < (q - 1 + 1) * Y := by rw [Int.sub_add_cancel]; exact J7.out
                have q3 := Dv.lt_b (q - 1) Y M u0 (by omega) (by omega) (by omega) hle
                obtain ⟨dq2, dm2, m3, m4⟩ := Dv.digit (q - 1) Y (M * 4294967296 + u0) (by omega) hle hlt
                have E22 := Dv.wrap3 M u0 (q - 1) Y _ dm2 (by omega) (by omega)
                have DQ2 := Lib.hid dq2
                clear dq2 dm2 m3 m4 hle hlt
                go_wp2
                go_ret2
                exact ⟨ret_uu (by rw [DQ.out, DQ2.out]) rfl, 0, rfl⟩
              · go_wp2
                go_round
                case rel => exact ⟨q - 1, r + yn1, rfl, rfl, by omega, by omega, by omega, by omega, Dv.next q r yn1 M J5.out, by rw [Int.sub_add_cancel]; exact J7.out⟩
                case measure => simp [intOf]; omega
            · have hb' : q ≤ 4294967295 := by omega
              have pm := Dv.mulb q yn0 i1 hb' a3 a4
              obtain ⟨pm1, pm2⟩ := pm
              by_cases ht : 4294967296 * r + u0 < q * yn0
              ·
                have T1 : decide (4294967296 ≤ q) = false := by simpa using hb
                have JB := Dv.stepB q r yn1 yn0 Y M u0 hY.out J5.out ht
                have q1 : 1 ≤ q := by
                  by_cases hq0 : q = 0
                  · rw [hq0, Int.zero_mul] at ht; omega
                  · omega
                have J7 := Lib.hid JB; clear JB
                by_cases hr : 4294967296 ≤ r + yn1
                · have hle := Dv.brk (q - 1) (r + yn1) yn1 yn0 Y M u0 hY.out a3 a4 (by omega) (Dv.next q r yn1 M J5.out) (by omega) (by omega) hr
                  have hlt : M * 4294967296 + u0 < (q - 1 + 1) * Y := by rw [Int.sub_add_cancel]; exact J7.out
                  have q3 := Dv.lt_b (q - 1) Y M u0 (by omega) (by omega) (by omega) hle
                  obtain ⟨dq2, dm2, m3, m4⟩ := Dv.digit (q - 1) Y (M * 4294967296 + u0) (by omega) hle hlt
                  have E22 := Dv.wrap3 M u0 (q - 1) Y _ dm2 (by omega) (by omega)
                  have DQ2 := Lib.hid dq2
                  clear dq2 dm2 m3 m4 hle hlt
                  go_wp2
                  go_ret2
                  exact ⟨ret_uu (by rw [DQ.out, DQ2.out]) rfl, 0, rfl⟩
                · go_wp2
                  go_round
                  case rel => exact ⟨q - 1, r + yn1, rfl, rfl, by omega, by omega, by omega, by omega, Dv.next q r yn1 M J5.out, by rw [Int.sub_add_cancel]; exact J7.out⟩
                  case measure => simp [intOf]; omega
              · have hle := Dv.stop q r yn1 yn0 Y M u0 hY.out J5.out ht
                have hlt := J6.out
                have T1 : decide (4294967296 ≤ q) = false := by simpa using hb
                have q3 := Dv.lt_b (q) Y M u0 (by omega) (by omega) (by omega) hle
                obtain ⟨dq2, dm2, m3, m4⟩ := Dv.digit (q) Y (M * 4294967296 + u0) (by omega) hle hlt
                have E22 := Dv.wrap3 M u0 (q) Y _ dm2 (by omega) (by omega)
                have DQ2 := Lib.hid dq2
                clear dq2 dm2 m3 m4 hle hlt
                go_wp2
                go_ret2
                exact ⟨ret_uu (by rw [DQ.out, DQ2.out]) rfl, 0, rfl⟩
        · go_wp2
          go_round
          case rel => exact ⟨q - 1, r + yn1, rfl, rfl, by omega, by omega, by omega, by omega, Dv.next q r yn1 un J5.out, by rw [Int.sub_add_cancel]; exact J7.out⟩
          case measure => simp [intOf]; omega
      · have hle := Dv.stop q r yn1 yn0 Y un u1 hY.out J5.out ht
        have hlt := J6.out
        have T1 : decide (4294967296 ≤ q) = false := by simpa using hb
        have q3 := Dv.lt_b (q) Y un u1 (by omega) (by omega) (by omega) hle
        obtain ⟨dq, dm, m0, m1⟩ := Dv.digit (q) Y (un * 4294967296 + u1) (by omega) hle hlt
        rw [dm] at m0 m1
        generalize gM : (un * 4294967296 + u1) % Y = M at *
        have E21 := Dv.wrap3 un u1 (q) Y M dm m0 (by omega)
        have DQ := Lib.hid dq
        obtain ⟨k1, k2, k3, k4, k5, k6⟩ := Dv.init yn1 yn0 Y M u0 hY.out a1 a3 a4 m0 m1 d3 d4
        have p2 : M - M / yn1 * yn1 = M % yn1 := by omega
        have p1 : 0 ≤ M / yn1 * yn1 := Int.mul_nonneg k1 (by omega)
        have p3 : M / yn1 * yn1 ≤ M := by omega
        have K5 := Lib.hid k5; have K6 := Lib.hid k6
        have t3 : (yn1 == 0) = false := by simp; omega
        clear dq dm k5 k6 hle hlt
        go_wp2
        clear E21 p2 t3
        go_loop [18, 16] (fun a b => ∃ q r : Int, a = .int .u64 q ∧ b = .int .u64 r ∧ 0 ≤ q ∧ q ≤ 4294967297 ∧ 0 ≤ r ∧ r < 4294967296 ∧ q * yn1 + r = M ∧ M * 4294967296 + u0 < (q + 1) * Y) (fun a _ => (intOf a).toNat)
        case atStart => exact ⟨_, _, rfl, rfl, k1, k2, k3, by omega, K5.out, K6.out⟩
        case round =>
          clear K5 K6 k1 k2 k3 k4 p1 p3 J5 J6 T1
          obtain ⟨q, r, rfl, rfl, i1, i2, i3, i4, I5, I6⟩ := hrel
          have J5 := Lib.hid I5; have J6 := Lib.hid I6; clear I5 I6
          by_cases hb : 4294967296 ≤ q
          ·
            have T1 : decide (4294967296 ≤ q) = true := by simpa using hb
            have JB := Dv.stepA q Y M u0 (by omega) (by omega) (by omega) hb
            have q1 : 1 ≤ q := by omega
            have J7 := Lib.hid JB; clear JB
            by_cases hr : 4294967296 ≤ r + yn1
            · have hle := Dv.brk (q - 1) (r + yn1) yn1 yn0 Y M u0 hY.out a3 a4 (by omega) (Dv.next q r yn1 M J5.out) (by omega) (by omega) hr
              have hlt : M * 4294967296 + u0 < (q - 1 + 1) * Y := by rw [Int.sub_add_cancel]; exact J7.out
              have q3 := Dv.lt_b (q - 1) Y M u0 (by omega) (by omega) (by omega) hle
              obtain ⟨dq2, dm2, m3, m4⟩ := Dv.digit (q - 1) Y (M * 4294967296 + u0) (by omega) hle hlt
              have E22 := Dv.wrap3 M u0 (q - 1) Y _ dm2 (by omega) (by omega)
              have DQ2 := Lib.hid dq2
              clear dq2 dm2 m3 m4 hle hlt
              go_wp2
              go_ret2
              exact ⟨ret_uu (by rw [DQ.out, DQ2.out]) rfl, 0, rfl⟩
            · go_wp2
              go_round
              case rel => exact ⟨q - 1, r + yn1, rfl, rfl, by omega, by omega, by omega, by omega, Dv.next q r yn1 M J5.out, by rw [Int.sub_add_cancel]; exact J7.out⟩
              case measure => simp [intOf]; omega
          · have hb' : q ≤ 4294967295 := by omega
            have pm := Dv.mulb q yn0 i1 hb' a3 a4
            obtain ⟨pm1, pm2⟩ := pm
            by_cases ht : 4294967296 * r + u0 < q * yn0
            ·
              have T1 : decide (4294967296 ≤ q) = false := by simpa using hb
              have JB := Dv.stepB q r yn1 yn0 Y M u0 hY.out J5.out ht
              have q1 : 1 ≤ q := by
                by_cases hq0 : q = 0
                · rw [hq0, Int.zero_mul] at ht; omega
                · omega
              have J7 := Lib.hid JB; clear JB
              by_cases hr : 4294967296 ≤ r + yn1
              · have hle := Dv.brk (q - 1) (r + yn1) yn1 yn0 Y M u0 hY.out a3 a4 (by omega) (Dv.next q r yn1 M J5.out) (by omega) (by omega) hr
                have hlt : M * 4294967296 + u0 < (q - 1 + 1) * Y := by rw [Int.sub_add_cancel]; exact J7.out
                have q3 := Dv.lt_b (q - 1) Y M u0 (by omega) (by omega) (by omega) hle
                obtain ⟨dq2, dm2, m3, m4⟩ := Dv.digit (q - 1) Y (M * 4294967296 + u0) (by omega) hle hlt
                have E22 := Dv.wrap3 M u0 (q - 1) Y _ dm2 (by omega) (by omega)
                have DQ2 := Lib.hid dq2
                clear dq2 dm2 m3 m4 hle hlt
                go_wp2
                go_ret2
                exact ⟨ret_uu (by rw [DQ.out, DQ2.out]) rfl, 0, rfl⟩
              · go_wp2
                go_round
                case rel => exact ⟨q - 1, r + yn1, rfl, rfl, by omega, by omega, by omega, by omega, Dv.next q r yn1 M J5.out, by rw [Int.sub_add_cancel]; exact J7.out⟩
                case measure => simp [intOf]; omega
            · have hle := Dv.stop q r yn1 yn0 Y M u0 hY.out J5.out ht
              have hlt := J6.out
              have T1 : decide (4294967296 ≤ q) = false := by simpa using hb
              have q3 := Dv.lt_b (q) Y M u0 (by omega) (by omega) (by omega) hle
              obtain ⟨dq2, dm2, m3, m4⟩ := Dv.digit (q) Y (M * 4294967296 + u0) (by omega) hle hlt
              have E22 := Dv.wrap3 M u0 (q) Y _ dm2 (by omega) (by omega)
              have DQ2 := Lib.hid dq2
              clear dq2 dm2 m3 m4 hle hlt
              go_wp2
              go_ret2
              exact ⟨ret_uu (by rw [DQ.out, DQ2.out]) rfl, 0, rfl⟩

set_option maxHeartbeats 400000 in
theorem bits_Div64 (hi lo y : Int) (h0 : 0 ≤ hi) (h1 : hi < y) (h2 : y < 18446744073709551616) (l0 : 0 ≤ lo) (l1 : lo < 18446744073709551616) (w : World) :
    Calls Try.prog 85 #[.int .u64 hi, .int .u64 lo, .int .u64 y] w fun e w' => e = .returned (.tuple #[.int .u64 ((hi * 18446744073709551616 + lo) / y), .int .u64 ((hi * 18446744073709551616 + lo) % y)]) ∧ ∃ n, w' = w.drewN n := by
  by_cases hh : hi = 0
  · subst hh
    have t1 : (y == 0) = false := by simp; omega
    have i1 := Int.emod_nonneg lo (show y ≠ 0 by omega)
    have i2 := Int.ediv_nonneg l0 (show 0 ≤ y by omega)
    have i3 := Int.ediv_le_self y l0
    have i4 := Int.emod_lt_of_pos lo h1
    go_enter Try.func85, Try.ntmps85
    go_wp2
    go_quiet (fail)
    go_wp2
    go_ret2
    exact ⟨ret_uu (by simp) (by simp), _, rfl⟩
  · obtain ⟨s0, s1, n0, n1⟩ := Dv.norm y _ (by omega) h2 rfl
    have hs := fun w => Try.bits_LeadingZeros64 y w (by omega) (by omega)
    generalize gs : (64 - (Go.Lib.bitLen y.toNat : Int)) = s at *
    obtain ⟨e1, e2, e3, e4⟩ := Dv.shifted hi lo y s h0 h1 l0 l1 s0 s1 n1
    have eY : IntKind.u64.wrap (y * 2 ^ s.toNat) = y * 2 ^ s.toNat := by rw [IntKind.wrap_u64]; omega
    have w0 : 0 ≤ IntKind.u64.wrap (lo * 2 ^ s.toNat) := by rw [IntKind.wrap_u64]; omega
    have w1 : IntKind.u64.wrap (lo * 2 ^ s.toNat) < 18446744073709551616 := by rw [IntKind.wrap_u64]; omega
    obtain ⟨p1, p2, p3⟩ := Dv.pow_two s s0 s1
    have sc := Dv.scaled (hi * 18446744073709551616 + lo) y (2 ^ s.toNat) p2 (by omega)
    rw [← e4] at sc
    refine (div64core hi lo y s (y * 2 ^ s.toNat) _ _ _ _ _ _ (by omega) h1 h2 l0 l1 s0 s1 hs eY rfl (Dv.and_lo _ (by omega) n1) e1 rfl rfl (Dv.and_lo _ w0 w1) (by omega) (by omega) (by omega) (by omega) (by unfold Hid; omega) e2 e3 n1 (by omega) (by omega) (by omega) (by omega) w).mono ?_
    rintro e w' ⟨rfl, hw⟩
    refine ⟨?_, hw⟩
    clear hs
    generalize hi * 2 ^ s.toNat + lo / 2 ^ (64 - s).toNat = un at *
    generalize gL : IntKind.u64.wrap (lo * 2 ^ s.toNat) = L at *
    have two := Dv.two (un * 4294967296 + L / 4294967296) (y * 2 ^ s.toNat) (L % 4294967296) (by omega) (by omega) (by omega)
    have eN : (un * 4294967296 + L / 4294967296) * 4294967296 + L % 4294967296 = un * 18446744073709551616 + L := by omega
    rw [eN, sc.1] at two
    exact ret_uu two.1.symm (by rw [← two.2]; exact sc.2)

end Go.Proofs.Ytmjbeplcabomdaa
