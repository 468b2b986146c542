/-
  The reference's series, walked.
-/
import Derived.Test.YtmjbeplcabomdaaTb
namespace Go.Proofs.Ytmjbeplcabomdaa
open Go.RowKit
set_option linter.unusedVariables false
set_option linter.unusedSimpArgs false

theorem rs_sub {s r sum t k D T Z : Nat} (h : rsN s (r + 1) sum t k true = Z) (hT : tmN t s = T) (hD : k * (k + 1) = D) : rsN s r (sum - T / D) (T / D) (k + 2) false = Z := by
  rw [rsN, hT, nadd, nmul, hD, ndiv, nsub, nadd, nadd] at h
  exact h
theorem rs_add {s r sum t k D T Z : Nat} (h : rsN s (r + 1) sum t k false = Z) (hT : tmN t s = T) (hD : k * (k + 1) = D) : rsN s r (sum + T / D) (T / D) (k + 2) true = Z := by
  rw [rsN, hT, nadd, nmul, hD, ndiv, nsub, nadd, nadd] at h
  exact h
theorem rs_end {s sum t k Z : Nat} {b : Bool} (h : rsN s 0 sum t k b = Z) : sum = Z := by
  rw [rsN] at h; exact h
theorem tm_le (t s : Nat) (hs : s ≤ 100000000000000000) : tmN t s ≤ t := by
  rw [tm_eq]
  exact Nat.div_le_of_le_mul (by rw [Nat.mul_comm]; exact Nat.mul_le_mul_right _ hs)
theorem tm_sq (x : Nat) (hx : x ≤ 78539816339744840) : tmN x x ≤ 100000000000000000 := Nat.le_trans (tm_le x x (by omega)) (by omega)

set_option maxHeartbeats 6400000 in
theorem ref5_series1 (x first : Nat) (hx : x ≤ 78539816339744840) (hf : first ≤ 100000000000000000) (w : World) :
    Calls Try.prog 104 #[.int .u64 x, .int .u64 first, .int .u64 1] w fun e w' => e = .returned (.int .u64 (rsN (tmN x x) 12 first first 1 true : Nat)) ∧ Below w.heap.size w w' := by
  have A1 := fun w => ref5_times x x (by omega) (by omega) w
  have hs := tm_sq x hx
  obtain ⟨Z, hZ⟩ : ∃ Z, rsN (tmN x x) 12 first first 1 true = Z := ⟨_, rfl⟩
  rw [hZ]
  generalize tmN x x = s at *
  have HZ := Lib.hid hZ
  clear hZ
  go_enter Try.func104, Try.ntmps104
  go_wp2_with fail
  refine (A1 _).mono ?_
  rintro e w1 ⟨rfl, hb1⟩
  clear A1
  go_wp2
  go_loopw [2, 7, 8, 10] (fun kk ss tt ii wr => ∃ r sum t : Nat, r ≤ 12 ∧ kk = .int .u64 (1 + 2 * (12 - r)) ∧ ss = .int .u64 sum ∧ tt = .int .u64 t ∧ ii = .int .u64 (12 - r) ∧ Hid (rsN s r sum t (1 + 2 * (12 - r)) (Nat.beq ((12 - r) % 2) 0) = Z) ∧ t ≤ sum ∧ sum + t ≤ 200000000000000000 ∧ Below w.heap.size w wr) (fun _ _ _ ii _ => 12 - (intOf ii).toNat)
  case atStart => exact ⟨12, first, first, by omega, rfl, rfl, rfl, rfl, HZ, by omega, by omega, hb1⟩
  case round =>
    clear HZ
    obtain ⟨r, sum, t, hr, rfl, rfl, rfl, rfl, hP, g1, g2, hB⟩ := hrel
    by_cases r0 : r = 0
    · subst r0
      have HE := Lib.hid (rs_end hP)
      clear hP
      go_wp2
      go_ret
      exact ⟨by rw [HE.out]; rfl, hB⟩
    · have A2 := fun w => ref5_times t s (by omega) (by omega) w
      have b1 := tm_le t s hs
      rcases (show r = 12 ∨ r = 11 ∨ r = 10 ∨ r = 9 ∨ r = 8 ∨ r = 7 ∨ r = 6 ∨ r = 5 ∨ r = 4 ∨ r = 3 ∨ r = 2 ∨ r = 1 by omega) with h | h | h | h | h | h | h | h | h | h | h | h <;> subst h
      · have HP := Lib.hid (rs_sub (T := tmN t s) (D := 2) hP rfl rfl)
        clear hP
        generalize tmN t s = T at *
        go_wp2_with fail
        with_reducible refine (A2 _).mono ?_
        rintro e w9 ⟨rfl, hb9⟩
        go_wp2
        go_roundw
        case rel => exact ⟨11, sum - T / 2, T / 2, by omega, rfl, by congr 1 <;> omega, rfl, rfl, HP, by omega, by omega, bt hB hb9⟩
        case measure => simp [intOf]
      · have HP := Lib.hid (rs_add (T := tmN t s) (D := 12) hP rfl rfl)
        clear hP
        generalize tmN t s = T at *
        go_wp2_with fail
        with_reducible refine (A2 _).mono ?_
        rintro e w9 ⟨rfl, hb9⟩
        go_wp2
        go_roundw
        case rel => exact ⟨10, sum + T / 12, T / 12, by omega, rfl, by congr 1 <;> omega, rfl, rfl, HP, by omega, by omega, bt hB hb9⟩
        case measure => simp [intOf]
      · have HP := Lib.hid (rs_sub (T := tmN t s) (D := 30) hP rfl rfl)
        clear hP
        generalize tmN t s = T at *
        go_wp2_with fail
        with_reducible refine (A2 _).mono ?_
        rintro e w9 ⟨rfl, hb9⟩
        go_wp2
        go_roundw
        case rel => exact ⟨9, sum - T / 30, T / 30, by omega, rfl, by congr 1 <;> omega, rfl, rfl, HP, by omega, by omega, bt hB hb9⟩
        case measure => simp [intOf]
      · have HP := Lib.hid (rs_add (T := tmN t s) (D := 56) hP rfl rfl)
        clear hP
        generalize tmN t s = T at *
        go_wp2_with fail
        with_reducible refine (A2 _).mono ?_
        rintro e w9 ⟨rfl, hb9⟩
        go_wp2
        go_roundw
        case rel => exact ⟨8, sum + T / 56, T / 56, by omega, rfl, by congr 1 <;> omega, rfl, rfl, HP, by omega, by omega, bt hB hb9⟩
        case measure => simp [intOf]
      · have HP := Lib.hid (rs_sub (T := tmN t s) (D := 90) hP rfl rfl)
        clear hP
        generalize tmN t s = T at *
        go_wp2_with fail
        with_reducible refine (A2 _).mono ?_
        rintro e w9 ⟨rfl, hb9⟩
        go_wp2
        go_roundw
        case rel => exact ⟨7, sum - T / 90, T / 90, by omega, rfl, by congr 1 <;> omega, rfl, rfl, HP, by omega, by omega, bt hB hb9⟩
        case measure => simp [intOf]
      · have HP := Lib.hid (rs_add (T := tmN t s) (D := 132) hP rfl rfl)
        clear hP
        generalize tmN t s = T at *
        go_wp2_with fail
        with_reducible refine (A2 _).mono ?_
        rintro e w9 ⟨rfl, hb9⟩
        go_wp2
        go_roundw
        case rel => exact ⟨6, sum + T / 132, T / 132, by omega, rfl, by congr 1 <;> omega, rfl, rfl, HP, by omega, by omega, bt hB hb9⟩
        case measure => simp [intOf]
      · have HP := Lib.hid (rs_sub (T := tmN t s) (D := 182) hP rfl rfl)
        clear hP
        generalize tmN t s = T at *
        go_wp2_with fail
        with_reducible refine (A2 _).mono ?_
        rintro e w9 ⟨rfl, hb9⟩
        go_wp2
        go_roundw
        case rel => exact ⟨5, sum - T / 182, T / 182, by omega, rfl, by congr 1 <;> omega, rfl, rfl, HP, by omega, by omega, bt hB hb9⟩
        case measure => simp [intOf]
      · have HP := Lib.hid (rs_add (T := tmN t s) (D := 240) hP rfl rfl)
        clear hP
        generalize tmN t s = T at *
        go_wp2_with fail
        with_reducible refine (A2 _).mono ?_
        rintro e w9 ⟨rfl, hb9⟩
        go_wp2
        go_roundw
        case rel => exact ⟨4, sum + T / 240, T / 240, by omega, rfl, by congr 1 <;> omega, rfl, rfl, HP, by omega, by omega, bt hB hb9⟩
        case measure => simp [intOf]
      · have HP := Lib.hid (rs_sub (T := tmN t s) (D := 306) hP rfl rfl)
        clear hP
        generalize tmN t s = T at *
        go_wp2_with fail
        with_reducible refine (A2 _).mono ?_
        rintro e w9 ⟨rfl, hb9⟩
        go_wp2
        go_roundw
        case rel => exact ⟨3, sum - T / 306, T / 306, by omega, rfl, by congr 1 <;> omega, rfl, rfl, HP, by omega, by omega, bt hB hb9⟩
        case measure => simp [intOf]
      · have HP := Lib.hid (rs_add (T := tmN t s) (D := 380) hP rfl rfl)
        clear hP
        generalize tmN t s = T at *
        go_wp2_with fail
        with_reducible refine (A2 _).mono ?_
        rintro e w9 ⟨rfl, hb9⟩
        go_wp2
        go_roundw
        case rel => exact ⟨2, sum + T / 380, T / 380, by omega, rfl, by congr 1 <;> omega, rfl, rfl, HP, by omega, by omega, bt hB hb9⟩
        case measure => simp [intOf]
      · have HP := Lib.hid (rs_sub (T := tmN t s) (D := 462) hP rfl rfl)
        clear hP
        generalize tmN t s = T at *
        go_wp2_with fail
        with_reducible refine (A2 _).mono ?_
        rintro e w9 ⟨rfl, hb9⟩
        go_wp2
        go_roundw
        case rel => exact ⟨1, sum - T / 462, T / 462, by omega, rfl, by congr 1 <;> omega, rfl, rfl, HP, by omega, by omega, bt hB hb9⟩
        case measure => simp [intOf]
      · have HP := Lib.hid (rs_add (T := tmN t s) (D := 552) hP rfl rfl)
        clear hP
        generalize tmN t s = T at *
        go_wp2_with fail
        with_reducible refine (A2 _).mono ?_
        rintro e w9 ⟨rfl, hb9⟩
        go_wp2
        go_roundw
        case rel => exact ⟨0, sum + T / 552, T / 552, by omega, rfl, by congr 1 <;> omega, rfl, rfl, HP, by omega, by omega, bt hB hb9⟩
        case measure => simp [intOf]

set_option maxHeartbeats 6400000 in
theorem ref5_series2 (x first : Nat) (hx : x ≤ 78539816339744840) (hf : first ≤ 100000000000000000) (w : World) :
    Calls Try.prog 104 #[.int .u64 x, .int .u64 first, .int .u64 2] w fun e w' => e = .returned (.int .u64 (rsN (tmN x x) 12 first first 2 true : Nat)) ∧ Below w.heap.size w w' := by
  have A1 := fun w => ref5_times x x (by omega) (by omega) w
  have hs := tm_sq x hx
  obtain ⟨Z, hZ⟩ : ∃ Z, rsN (tmN x x) 12 first first 2 true = Z := ⟨_, rfl⟩
  rw [hZ]
  generalize tmN x x = s at *
  have HZ := Lib.hid hZ
  clear hZ
  go_enter Try.func104, Try.ntmps104
  go_wp2_with fail
  refine (A1 _).mono ?_
  rintro e w1 ⟨rfl, hb1⟩
  clear A1
  go_wp2
  go_loopw [2, 7, 8, 10] (fun kk ss tt ii wr => ∃ r sum t : Nat, r ≤ 12 ∧ kk = .int .u64 (2 + 2 * (12 - r)) ∧ ss = .int .u64 sum ∧ tt = .int .u64 t ∧ ii = .int .u64 (12 - r) ∧ Hid (rsN s r sum t (2 + 2 * (12 - r)) (Nat.beq ((12 - r) % 2) 0) = Z) ∧ t ≤ sum ∧ sum + t ≤ 200000000000000000 ∧ Below w.heap.size w wr) (fun _ _ _ ii _ => 12 - (intOf ii).toNat)
  case atStart => exact ⟨12, first, first, by omega, rfl, rfl, rfl, rfl, HZ, by omega, by omega, hb1⟩
  case round =>
    clear HZ
    obtain ⟨r, sum, t, hr, rfl, rfl, rfl, rfl, hP, g1, g2, hB⟩ := hrel
    by_cases r0 : r = 0
    · subst r0
      have HE := Lib.hid (rs_end hP)
      clear hP
      go_wp2
      go_ret
      exact ⟨by rw [HE.out]; rfl, hB⟩
    · have A2 := fun w => ref5_times t s (by omega) (by omega) w
      have b1 := tm_le t s hs
      rcases (show r = 12 ∨ r = 11 ∨ r = 10 ∨ r = 9 ∨ r = 8 ∨ r = 7 ∨ r = 6 ∨ r = 5 ∨ r = 4 ∨ r = 3 ∨ r = 2 ∨ r = 1 by omega) with h | h | h | h | h | h | h | h | h | h | h | h <;> subst h
      · have HP := Lib.hid (rs_sub (T := tmN t s) (D := 6) hP rfl rfl)
        clear hP
        generalize tmN t s = T at *
        go_wp2_with fail
        with_reducible refine (A2 _).mono ?_
        rintro e w9 ⟨rfl, hb9⟩
        go_wp2
        go_roundw
        case rel => exact ⟨11, sum - T / 6, T / 6, by omega, rfl, by congr 1 <;> omega, rfl, rfl, HP, by omega, by omega, bt hB hb9⟩
        case measure => simp [intOf]
      · have HP := Lib.hid (rs_add (T := tmN t s) (D := 20) hP rfl rfl)
        clear hP
        generalize tmN t s = T at *
        go_wp2_with fail
        with_reducible refine (A2 _).mono ?_
        rintro e w9 ⟨rfl, hb9⟩
        go_wp2
        go_roundw
        case rel => exact ⟨10, sum + T / 20, T / 20, by omega, rfl, by congr 1 <;> omega, rfl, rfl, HP, by omega, by omega, bt hB hb9⟩
        case measure => simp [intOf]
      · have HP := Lib.hid (rs_sub (T := tmN t s) (D := 42) hP rfl rfl)
        clear hP
        generalize tmN t s = T at *
        go_wp2_with fail
        with_reducible refine (A2 _).mono ?_
        rintro e w9 ⟨rfl, hb9⟩
        go_wp2
        go_roundw
        case rel => exact ⟨9, sum - T / 42, T / 42, by omega, rfl, by congr 1 <;> omega, rfl, rfl, HP, by omega, by omega, bt hB hb9⟩
        case measure => simp [intOf]
      · have HP := Lib.hid (rs_add (T := tmN t s) (D := 72) hP rfl rfl)
        clear hP
        generalize tmN t s = T at *
        go_wp2_with fail
        with_reducible refine (A2 _).mono ?_
        rintro e w9 ⟨rfl, hb9⟩
        go_wp2
        go_roundw
        case rel => exact ⟨8, sum + T / 72, T / 72, by omega, rfl, by congr 1 <;> omega, rfl, rfl, HP, by omega, by omega, bt hB hb9⟩
        case measure => simp [intOf]
      · have HP := Lib.hid (rs_sub (T := tmN t s) (D := 110) hP rfl rfl)
        clear hP
        generalize tmN t s = T at *
        go_wp2_with fail
        with_reducible refine (A2 _).mono ?_
        rintro e w9 ⟨rfl, hb9⟩
        go_wp2
        go_roundw
        case rel => exact ⟨7, sum - T / 110, T / 110, by omega, rfl, by congr 1 <;> omega, rfl, rfl, HP, by omega, by omega, bt hB hb9⟩
        case measure => simp [intOf]
      · have HP := Lib.hid (rs_add (T := tmN t s) (D := 156) hP rfl rfl)
        clear hP
        generalize tmN t s = T at *
        go_wp2_with fail
        with_reducible refine (A2 _).mono ?_
        rintro e w9 ⟨rfl, hb9⟩
        go_wp2
        go_roundw
        case rel => exact ⟨6, sum + T / 156, T / 156, by omega, rfl, by congr 1 <;> omega, rfl, rfl, HP, by omega, by omega, bt hB hb9⟩
        case measure => simp [intOf]
      · have HP := Lib.hid (rs_sub (T := tmN t s) (D := 210) hP rfl rfl)
        clear hP
        generalize tmN t s = T at *
        go_wp2_with fail
        with_reducible refine (A2 _).mono ?_
        rintro e w9 ⟨rfl, hb9⟩
        go_wp2
        go_roundw
        case rel => exact ⟨5, sum - T / 210, T / 210, by omega, rfl, by congr 1 <;> omega, rfl, rfl, HP, by omega, by omega, bt hB hb9⟩
        case measure => simp [intOf]
      · have HP := Lib.hid (rs_add (T := tmN t s) (D := 272) hP rfl rfl)
        clear hP
        generalize tmN t s = T at *
        go_wp2_with fail
        with_reducible refine (A2 _).mono ?_
        rintro e w9 ⟨rfl, hb9⟩
        go_wp2
        go_roundw
        case rel => exact ⟨4, sum + T / 272, T / 272, by omega, rfl, by congr 1 <;> omega, rfl, rfl, HP, by omega, by omega, bt hB hb9⟩
        case measure => simp [intOf]
      · have HP := Lib.hid (rs_sub (T := tmN t s) (D := 342) hP rfl rfl)
        clear hP
        generalize tmN t s = T at *
        go_wp2_with fail
        with_reducible refine (A2 _).mono ?_
        rintro e w9 ⟨rfl, hb9⟩
        go_wp2
        go_roundw
        case rel => exact ⟨3, sum - T / 342, T / 342, by omega, rfl, by congr 1 <;> omega, rfl, rfl, HP, by omega, by omega, bt hB hb9⟩
        case measure => simp [intOf]
      · have HP := Lib.hid (rs_add (T := tmN t s) (D := 420) hP rfl rfl)
        clear hP
        generalize tmN t s = T at *
        go_wp2_with fail
        with_reducible refine (A2 _).mono ?_
        rintro e w9 ⟨rfl, hb9⟩
        go_wp2
        go_roundw
        case rel => exact ⟨2, sum + T / 420, T / 420, by omega, rfl, by congr 1 <;> omega, rfl, rfl, HP, by omega, by omega, bt hB hb9⟩
        case measure => simp [intOf]
      · have HP := Lib.hid (rs_sub (T := tmN t s) (D := 506) hP rfl rfl)
        clear hP
        generalize tmN t s = T at *
        go_wp2_with fail
        with_reducible refine (A2 _).mono ?_
        rintro e w9 ⟨rfl, hb9⟩
        go_wp2
        go_roundw
        case rel => exact ⟨1, sum - T / 506, T / 506, by omega, rfl, by congr 1 <;> omega, rfl, rfl, HP, by omega, by omega, bt hB hb9⟩
        case measure => simp [intOf]
      · have HP := Lib.hid (rs_add (T := tmN t s) (D := 600) hP rfl rfl)
        clear hP
        generalize tmN t s = T at *
        go_wp2_with fail
        with_reducible refine (A2 _).mono ?_
        rintro e w9 ⟨rfl, hb9⟩
        go_wp2
        go_roundw
        case rel => exact ⟨0, sum + T / 600, T / 600, by omega, rfl, by congr 1 <;> omega, rfl, rfl, HP, by omega, by omega, bt hB hb9⟩
        case measure => simp [intOf]
end Go.Proofs.Ytmjbeplcabomdaa
