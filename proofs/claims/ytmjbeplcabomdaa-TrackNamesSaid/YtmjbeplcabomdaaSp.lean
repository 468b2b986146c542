/-
  The code's cosines: the series, walked.
-/
import Derived.Test.YtmjbeplcabomdaaSd
import Derived.Test.YtmjbeplcabomdaaSk3
namespace Go.Proofs.Ytmjbeplcabomdaa
open Go.RowKit
set_option linter.unusedVariables false
set_option linter.unusedSimpArgs false

theorem castdiv (a b c : Nat) : ((a * b / c : Nat) : Int) = (a : Int) * b / c := by rw [Int.natCast_ediv, Int.natCast_mul]
theorem stp_eq (s x d : Nat) : stp s x d = 1000000000000000000 - s * x / 1000000000000000000 / d := by rw [stp, nsub, ndiv, ndiv, nmul]
theorem stp_le (s x d : Nat) : stp s x d ≤ 1000000000000000000 := by rw [stp_eq]; exact Nat.sub_le _ _
theorem ang_bd {a n : Nat} (h1 : 1 ≤ n) (ha : a ≤ n) : angN a n ≤ 1570796326794896619 := by
  rw [angN, ndiv, nmul]
  exact Nat.div_le_of_le_mul (by rw [Nat.mul_comm n]; exact Nat.mul_le_mul_left _ ha)
theorem sq_bd {a n : Nat} (h1 : 1 ≤ n) (ha : a ≤ n) : sqN a n ≤ 2467401100272339654 := by
  have h := ang_bd h1 ha
  have := Nat.mul_le_mul h h
  rw [sqN, ndiv, nmul]
  omega
/-- Where the loop stands, t rounds before its end. -/
def serP (s z xs t X : Nat) : Prop := (t = 0 → X = xs) ∧ ∀ r, t = r + 1 → serN s r X = z
theorem serP_start {s z xs : Nat} (h : serN s 11 1000000000000000000 = z) : serP s z xs 12 1000000000000000000 := by
  refine ⟨fun h => by omega, fun r hr => ?_⟩
  obtain rfl : r = 11 := by omega
  exact h
theorem serP_step {s z xs r X Y : Nat} (h : serP s z xs (r + 2) X) (hY : s * X / 1000000000000000000 = Y) : serP s z xs (r + 1) (1000000000000000000 - Y / ((2 * r + 4) * (2 * r + 3))) := by
  refine ⟨fun h => by omega, fun q hq => ?_⟩
  obtain rfl : q = r := by omega
  have h2 := h.2 (q + 1) rfl
  rw [← hY, ← stp_eq]
  rw [serN] at h2
  exact h2
theorem serP_last {s z xs X ly : Nat} (h : serP s z xs 1 X) (hl : ly = s * z / 1000000000000000000 / 2) (hx : xs = 1000000000000000000 - ly) : X = z ∧ serP s z xs 0 (1000000000000000000 - ly) := by
  have h2 := h.2 0 rfl
  rw [serN] at h2
  exact ⟨h2, fun _ => hx.symm, fun r hr => by omega⟩
theorem serP_end {s z xs X : Nat} (h : serP s z xs 0 X) : X = xs := h.1 rfl

set_option maxHeartbeats 3200000 in
theorem sine_series (a n : Nat) (h1 : 1 ≤ n) (h2 : n ≤ 720) (ha : a ≤ n) (hl : lastY (sqN a n) ≤ 999999999999999990) (w : World) :
    Calls Try.prog 95 #[.int .i64 a, .int .i64 n] w fun e w' => e = .returned (.tuple #[.int .u64 (xsN a n), .int .u64 10]) ∧ ∃ m, w' = w.drewN m := by
  have b1 := ang_bd h1 ha
  have b2 := sq_bd h1 ha
  have ek : ((1570796326794896619 : Nat) : Int) = 1570796326794896619 := by omega
  have eo : ((1000000000000000000 : Nat) : Int) = 1000000000000000000 := by omega
  have q1 : (1570796326794896619 : Int) * a / n = (angN a n : Nat) := by rw [angN, nmul, ndiv, castdiv, ek]
  have q2 : ((angN a n : Nat) : Int) * (angN a n : Nat) / 1000000000000000000 = (sqN a n : Nat) := by rw [sqN, nmul, ndiv, castdiv, eo]
  have m2 := mul_bd (angN a n : Nat) (angN a n : Nat) 1570796326794896619 1570796326794896619 (by omega) (by omega) (by omega) (by omega)
  have A1 := fun w => sine_share 1570796326794896619 a n (by omega) (by omega) (by omega) (by omega) (by omega) (by omega) (by omega) w
  have A2 := fun w => sine_share (angN a n : Nat) (angN a n : Nat) 1000000000000000000 (by omega) (by omega) (by omega) (by omega) (by omega) (by omega) (by omega) w
  rw [q1] at A1
  rw [q2] at A2
  generalize (1570796326794896619 : Int) * a % n = r1 at *
  generalize ((angN a n : Nat) : Int) * (angN a n : Nat) % 1000000000000000000 = r2 at *
  have hser := Lib.hid (ser11_eq (sqN a n))
  have hxs := Lib.hid (xs_eq a n)
  have hly := Lib.hid (show lastY (sqN a n) = sqN a n * ser11 (sqN a n) / 1000000000000000000 / 2 by rw [lastY, ndiv, ndiv, nmul])
  have hser1 : ser11 (sqN a n) ≤ 1000000000000000000 := stp_le _ _ _
  clear q1 q2 m2 ek eo
  generalize lastY (sqN a n) = ly at *
  generalize xsN a n = xs at *
  generalize angN a n = ag at *
  generalize sqN a n = s at *
  generalize ser11 s = z at *
  have HS := Lib.hid (serP_start (xs := xs) hser.out)
  have hA3 : ∀ X : Nat, X ≤ 1000000000000000000 → ∀ w, Calls Try.prog 69 #[.int .u64 s, .int .u64 X, .int .u64 1000000000000000000] w fun e w' => e = .returned (.tuple #[.int .u64 ((s * X / 1000000000000000000 : Nat) : Int), .int .u64 ((s : Int) * X % 1000000000000000000)]) ∧ ∃ n, w' = w.drewN n := by
    intro X hX w
    have m3 := mul_bd (s : Int) X 2467401100272339654 1000000000000000000 (by omega) (by omega) (by omega) (by omega)
    have := sine_share s X 1000000000000000000 (by omega) (by omega) (by omega) (by omega) (by omega) (by omega) (by omega) w
    rw [castdiv]
    exact this
  have HA3 := Lib.hid hA3
  clear hA3
  go_enter Try.func95, Try.ntmps95
  go_wp2_with fail
  refine (A1 _).mono ?_
  rintro e w1 ⟨rfl, n1, rfl⟩
  go_wp2_with fail
  refine (A2 _).mono ?_
  rintro e w1 ⟨rfl, n2, rfl⟩
  clear A1 A2
  go_wp2
  go_loopw [4, 10] (fun xx kk wr => ∃ (q X : Nat), q ≤ 12 ∧ kk = .int .u64 (2 * q) ∧ xx = .int .u64 X ∧ X ≤ 1000000000000000000 ∧ Hid (serP s z xs q X) ∧ ∃ n, wr = w.drewN n) (fun _ kk _ => (intOf kk).toNat)
  case atStart => exact ⟨12, 1000000000000000000, by omega, rfl, rfl, by omega, HS, _, rfl⟩
  case round =>
    clear HS
    obtain ⟨q, X, hq, rfl, rfl, hX, hP, n3, rfl⟩ := hrel
    by_cases q0 : q = 0
    · subst q0
      have HE := Lib.hid (serP_end hP)
      clear hP
      go_wp2
      go_ret2
      exact ⟨by rw [HE.out]; rfl, _, rfl⟩
    · by_cases q1 : q = 1
      · subst q1
        have A3 := HA3.out X hX
        obtain ⟨p1, p2⟩ := serP_last hP hly.out hxs.out
        subst p1
        have HP := Lib.hid p2
        have hY := hly.out
        clear hP p2 q0 HA3
        generalize s * X / 1000000000000000000 = Y at *
        have v1 : Y / 2 ≤ 999999999999999990 := by omega
        have HY := Lib.hid hY
        clear hY
        go_wp2_with fail
        refine (A3 _).mono ?_
        rintro e w1 ⟨rfl, n4, rfl⟩
        go_wp2
        go_roundw
        case rel => exact ⟨0, 1000000000000000000 - ly, by omega, rfl, by rw [HY.out]; congr 1; omega, by omega, HP, _, rfl⟩
        case measure => simp [intOf]
      · have A3 := HA3.out X hX
        clear HA3
        rcases (show q = 2 ∨ q = 3 ∨ q = 4 ∨ q = 5 ∨ q = 6 ∨ q = 7 ∨ q = 8 ∨ q = 9 ∨ q = 10 ∨ q = 11 ∨ q = 12 by omega) with h | h | h | h | h | h | h | h | h | h | h <;> subst h
        · have HP := Lib.hid (serP_step (r := 0) hP rfl)
          have v0 : s * X / 1000000000000000000 ≤ 2467401100272339654 := by
            have := Nat.mul_le_mul b2 hX
            omega
          clear hP q0 q1
          generalize s * X / 1000000000000000000 = Y at *
          go_wp2_with fail
          refine (A3 _).mono ?_
          rintro e w1 ⟨rfl, n4, rfl⟩
          go_wp2
          go_roundw
          case rel => exact ⟨1, 1000000000000000000 - Y / 12, by omega, rfl, by congr 1; omega, by omega, HP, _, rfl⟩
          case measure => simp [intOf]
        · have HP := Lib.hid (serP_step (r := 1) hP rfl)
          have v0 : s * X / 1000000000000000000 ≤ 2467401100272339654 := by
            have := Nat.mul_le_mul b2 hX
            omega
          clear hP q0 q1
          generalize s * X / 1000000000000000000 = Y at *
          go_wp2_with fail
          refine (A3 _).mono ?_
          rintro e w1 ⟨rfl, n4, rfl⟩
          go_wp2
          go_roundw
          case rel => exact ⟨2, 1000000000000000000 - Y / 30, by omega, rfl, by congr 1; omega, by omega, HP, _, rfl⟩
          case measure => simp [intOf]
        · have HP := Lib.hid (serP_step (r := 2) hP rfl)
          have v0 : s * X / 1000000000000000000 ≤ 2467401100272339654 := by
            have := Nat.mul_le_mul b2 hX
            omega
          clear hP q0 q1
          generalize s * X / 1000000000000000000 = Y at *
          go_wp2_with fail
          refine (A3 _).mono ?_
          rintro e w1 ⟨rfl, n4, rfl⟩
          go_wp2
          go_roundw
          case rel => exact ⟨3, 1000000000000000000 - Y / 56, by omega, rfl, by congr 1; omega, by omega, HP, _, rfl⟩
          case measure => simp [intOf]
        · have HP := Lib.hid (serP_step (r := 3) hP rfl)
          have v0 : s * X / 1000000000000000000 ≤ 2467401100272339654 := by
            have := Nat.mul_le_mul b2 hX
            omega
          clear hP q0 q1
          generalize s * X / 1000000000000000000 = Y at *
          go_wp2_with fail
          refine (A3 _).mono ?_
          rintro e w1 ⟨rfl, n4, rfl⟩
          go_wp2
          go_roundw
          case rel => exact ⟨4, 1000000000000000000 - Y / 90, by omega, rfl, by congr 1; omega, by omega, HP, _, rfl⟩
          case measure => simp [intOf]
        · have HP := Lib.hid (serP_step (r := 4) hP rfl)
          have v0 : s * X / 1000000000000000000 ≤ 2467401100272339654 := by
            have := Nat.mul_le_mul b2 hX
            omega
          clear hP q0 q1
          generalize s * X / 1000000000000000000 = Y at *
          go_wp2_with fail
          refine (A3 _).mono ?_
          rintro e w1 ⟨rfl, n4, rfl⟩
          go_wp2
          go_roundw
          case rel => exact ⟨5, 1000000000000000000 - Y / 132, by omega, rfl, by congr 1; omega, by omega, HP, _, rfl⟩
          case measure => simp [intOf]
        · have HP := Lib.hid (serP_step (r := 5) hP rfl)
          have v0 : s * X / 1000000000000000000 ≤ 2467401100272339654 := by
            have := Nat.mul_le_mul b2 hX
            omega
          clear hP q0 q1
          generalize s * X / 1000000000000000000 = Y at *
          go_wp2_with fail
          refine (A3 _).mono ?_
          rintro e w1 ⟨rfl, n4, rfl⟩
          go_wp2
          go_roundw
          case rel => exact ⟨6, 1000000000000000000 - Y / 182, by omega, rfl, by congr 1; omega, by omega, HP, _, rfl⟩
          case measure => simp [intOf]
        · have HP := Lib.hid (serP_step (r := 6) hP rfl)
          have v0 : s * X / 1000000000000000000 ≤ 2467401100272339654 := by
            have := Nat.mul_le_mul b2 hX
            omega
          clear hP q0 q1
          generalize s * X / 1000000000000000000 = Y at *
          go_wp2_with fail
          refine (A3 _).mono ?_
          rintro e w1 ⟨rfl, n4, rfl⟩
          go_wp2
          go_roundw
          case rel => exact ⟨7, 1000000000000000000 - Y / 240, by omega, rfl, by congr 1; omega, by omega, HP, _, rfl⟩
          case measure => simp [intOf]
        · have HP := Lib.hid (serP_step (r := 7) hP rfl)
          have v0 : s * X / 1000000000000000000 ≤ 2467401100272339654 := by
            have := Nat.mul_le_mul b2 hX
            omega
          clear hP q0 q1
          generalize s * X / 1000000000000000000 = Y at *
          go_wp2_with fail
          refine (A3 _).mono ?_
          rintro e w1 ⟨rfl, n4, rfl⟩
          go_wp2
          go_roundw
          case rel => exact ⟨8, 1000000000000000000 - Y / 306, by omega, rfl, by congr 1; omega, by omega, HP, _, rfl⟩
          case measure => simp [intOf]
        · have HP := Lib.hid (serP_step (r := 8) hP rfl)
          have v0 : s * X / 1000000000000000000 ≤ 2467401100272339654 := by
            have := Nat.mul_le_mul b2 hX
            omega
          clear hP q0 q1
          generalize s * X / 1000000000000000000 = Y at *
          go_wp2_with fail
          refine (A3 _).mono ?_
          rintro e w1 ⟨rfl, n4, rfl⟩
          go_wp2
          go_roundw
          case rel => exact ⟨9, 1000000000000000000 - Y / 380, by omega, rfl, by congr 1; omega, by omega, HP, _, rfl⟩
          case measure => simp [intOf]
        · have HP := Lib.hid (serP_step (r := 9) hP rfl)
          have v0 : s * X / 1000000000000000000 ≤ 2467401100272339654 := by
            have := Nat.mul_le_mul b2 hX
            omega
          clear hP q0 q1
          generalize s * X / 1000000000000000000 = Y at *
          go_wp2_with fail
          refine (A3 _).mono ?_
          rintro e w1 ⟨rfl, n4, rfl⟩
          go_wp2
          go_roundw
          case rel => exact ⟨10, 1000000000000000000 - Y / 462, by omega, rfl, by congr 1; omega, by omega, HP, _, rfl⟩
          case measure => simp [intOf]
        · have HP := Lib.hid (serP_step (r := 10) hP rfl)
          have v0 : s * X / 1000000000000000000 ≤ 2467401100272339654 := by
            have := Nat.mul_le_mul b2 hX
            omega
          clear hP q0 q1
          generalize s * X / 1000000000000000000 = Y at *
          go_wp2_with fail
          refine (A3 _).mono ?_
          rintro e w1 ⟨rfl, n4, rfl⟩
          go_wp2
          go_roundw
          case rel => exact ⟨11, 1000000000000000000 - Y / 552, by omega, rfl, by congr 1; omega, by omega, HP, _, rfl⟩
          case measure => simp [intOf]
end Go.Proofs.Ytmjbeplcabomdaa
