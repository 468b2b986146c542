/-
  SineTables, walked.
-/
import Derived.Test.YtilcgbloangcmaaTf
namespace Go.Proofs.Ytilcgbloangcmaa
open Go.RowKit
set_option linter.unusedVariables false
set_option linter.unusedSimpArgs false

theorem quarterI (a b : Int) (k n : Nat) (ha : a = k) (hb : b = n) (h1 : 1 ≤ n) (h2 : n ≤ 6000) (hk : 4 * k ≤ n) (w : World) :
    Calls Try.prog 64 #[.int .i64 a, .int .i64 b] w fun e w' => e = .returned (.agg #[.int .i64 ((quL k n : Nat)), .int .i64 ((quH k n : Nat))]) ∧ Below w.heap.size w w' := by
  subst ha hb; exact ref5_quarter k n h1 h2 hk w
theorem qu_bd (k n : Nat) (h1 : 1 ≤ n) (hk : 4 * k ≤ n) : quL k n ≤ 3000000 ∧ quH k n ≤ 3000001 := by
  have key : ∀ (z : Bool) (x : Nat), x ≤ 200000000000000000 → cond z (rnd x) (flo x) ≤ 3000000 := by
    intro z x hx
    cases z
    · rw [cond_false, flo_eq]; omega
    · rw [cond_true, rnd_eq]; omega
  have hL : quL k n ≤ 3000000 := by
    by_cases c : 8 * k ≤ n
    · rw [(qu_lo c).2]; exact key _ _ (co_bd h1 c).1
    · rw [(qu_hi c).2]; exact key _ _ (co_bd (show 1 ≤ 4 * n by omega) (by omega)).2
  refine ⟨hL, ?_⟩
  rw [qu_H]
  cases quX k n
  · rw [cond_false]; omega
  · rw [cond_true]; omega

set_option maxHeartbeats 1600000 in
theorem ref5_Cosine (k : Int) (n : Nat) (h1 : 1 ≤ n) (h2 : n ≤ 2500 ∨ n ≤ 2880) (w : World) :
    Calls Try.prog 44 #[.int .i64 k, .int .i64 n] w fun e w' => e = .returned (.agg #[.int .i64 (crL k n), .int .i64 (crH k n)]) ∧ Below w.heap.size w w' := by
  have ht := tmod_bd k n (by omega)
  have he : k % (n : Int) = k.tmod n ∨ k % (n : Int) = k.tmod n + n := by
    rw [Int.tmod_eq_emod]
    split
    · left; omega
    · right; have : ((n : Int)).natAbs = n := by omega
      omega
  have hn := Int.emod_nonneg k (show (n : Int) ≠ 0 by omega)
  have hl := Int.emod_lt_of_pos k (show (0 : Int) < n by omega)
  have hf : fdN k n = min (k % n).toNat (n - (k % n).toNat) := rfl
  have r1 : crL k n = if n < 4 * fdN k n then -((quH (n - 2 * fdN k n) (2 * n) : Nat) : Int) else (quL (fdN k n) n : Nat) := rfl
  have r2 : crH k n = if n < 4 * fdN k n then -((quL (n - 2 * fdN k n) (2 * n) : Nat) : Int) else (quH (fdN k n) n : Nat) := rfl
  rw [r1, r2]
  clear r1 r2
  generalize fdN k n = f at *
  generalize k % (n : Int) = r at *
  obtain ⟨t, htt⟩ : ∃ t, k.tmod n = t := ⟨_, rfl⟩
  rw [htt] at ht he
  have hn0 : (n = 0) = False := by simp; omega
  by_cases c1 : t < 0
  · obtain rfl : r = t + n := by omega
    by_cases c2 : n < 2 * (t + (n : Int))
    · by_cases c3 : n < 4 * ((n : Int) - (t + n))
      ·
        have A1 := fun w => quarterI ((n : Int) - 2 * ((n : Int) - (t + (n : Int)))) (2 * (n : Int)) (n - 2 * f) (2 * n) (by omega) (by omega) (by omega) (by omega) (by omega) w
        have bd := qu_bd (n - 2 * f) (2 * n) (by omega) (by omega)
        have A2 := fun w => ref5_Neg (quL (n - 2 * f) (2 * n) : Nat) (quH (n - 2 * f) (2 * n) : Nat) (by omega) (by omega) (by omega) (by omega) w
        rw [if_pos (show n < 4 * f by omega), if_pos (show n < 4 * f by omega)]
        generalize quL (n - 2 * f) (2 * n) = x at *
        generalize quH (n - 2 * f) (2 * n) = y at *
        clear hf
        have dAl := dAl; have dSt := dSt; have xC := ext_cell; have xF := ext_frozen; have xS := ext_set; have xN := ext_drewN; have xD := ext_drew; have xL := ext_lt; have xE := ext_ne; have xG := ext_nr; have xX := ext_ext; have xL1 := ext_lt1; have xL2 := ext_lt2; have xL3 := ext_lt3; have xM0 := ext_le0; have xM1 := ext_le1; have xM2 := ext_le2
        go_enter Try.func44, Try.ntmps44
        go_wp2_with fail
        refine (A1 _).mono ?_
        rintro e w1c ⟨rfl, hb1c⟩
        obtain ⟨l1c, d1c, rfl⟩ := toExt hb1c
        clear hb1c
        go_wp2_with fail
        refine (A2 _).mono ?_
        rintro e w2c ⟨rfl, hb2c⟩
        obtain ⟨l2c, d2c, rfl⟩ := toExt hb2c
        clear hb2c
        go_wp2
        refine bodyPost_ret (by simp [results, Try.results44, go_sem, ext_cell, World.cell?_alloc_past, ltk2, ltk3, ltk4, ltk5, ltk6, ltk7, ltk8, ltk9, *]; try rfl) rfl ?_
        exact ⟨rfl, by (repeat (first | with_reducible exact b0 _ | (with_reducible refine bext ?_ _ _) | (with_reducible refine below_drewN ?_ _) | (with_reducible refine Below.drew ?_) | (with_reducible refine bal ?_ _)))⟩
      ·
        have A1 := fun w => quarterI ((n : Int) - (t + (n : Int))) (n : Int) f n (by omega) rfl (by omega) (by omega) (by omega) w
        rw [if_neg (show ¬ n < 4 * f by omega), if_neg (show ¬ n < 4 * f by omega)]
        generalize quL f n = x at *
        generalize quH f n = y at *
        clear hf
        have dAl := dAl; have dSt := dSt; have xC := ext_cell; have xF := ext_frozen; have xS := ext_set; have xN := ext_drewN; have xD := ext_drew; have xL := ext_lt; have xE := ext_ne; have xG := ext_nr; have xX := ext_ext; have xL1 := ext_lt1; have xL2 := ext_lt2; have xL3 := ext_lt3; have xM0 := ext_le0; have xM1 := ext_le1; have xM2 := ext_le2
        go_enter Try.func44, Try.ntmps44
        go_wp2_with fail
        refine (A1 _).mono ?_
        rintro e w3c ⟨rfl, hb3c⟩
        obtain ⟨l3c, d3c, rfl⟩ := toExt hb3c
        clear hb3c
        go_wp2
        refine bodyPost_ret (by simp [results, Try.results44, go_sem, ext_cell, World.cell?_alloc_past, ltk2, ltk3, ltk4, ltk5, ltk6, ltk7, ltk8, ltk9, *]; try rfl) rfl ?_
        exact ⟨rfl, by (repeat (first | with_reducible exact b0 _ | (with_reducible refine bext ?_ _ _) | (with_reducible refine below_drewN ?_ _) | (with_reducible refine Below.drew ?_) | (with_reducible refine bal ?_ _)))⟩
    · by_cases c3 : n < 4 * (t + (n : Int))
      ·
        have A1 := fun w => quarterI ((n : Int) - 2 * (t + (n : Int))) (2 * (n : Int)) (n - 2 * f) (2 * n) (by omega) (by omega) (by omega) (by omega) (by omega) w
        have bd := qu_bd (n - 2 * f) (2 * n) (by omega) (by omega)
        have A2 := fun w => ref5_Neg (quL (n - 2 * f) (2 * n) : Nat) (quH (n - 2 * f) (2 * n) : Nat) (by omega) (by omega) (by omega) (by omega) w
        rw [if_pos (show n < 4 * f by omega), if_pos (show n < 4 * f by omega)]
        generalize quL (n - 2 * f) (2 * n) = x at *
        generalize quH (n - 2 * f) (2 * n) = y at *
        clear hf
        have dAl := dAl; have dSt := dSt; have xC := ext_cell; have xF := ext_frozen; have xS := ext_set; have xN := ext_drewN; have xD := ext_drew; have xL := ext_lt; have xE := ext_ne; have xG := ext_nr; have xX := ext_ext; have xL1 := ext_lt1; have xL2 := ext_lt2; have xL3 := ext_lt3; have xM0 := ext_le0; have xM1 := ext_le1; have xM2 := ext_le2
        go_enter Try.func44, Try.ntmps44
        go_wp2_with fail
        refine (A1 _).mono ?_
        rintro e w4c ⟨rfl, hb4c⟩
        obtain ⟨l4c, d4c, rfl⟩ := toExt hb4c
        clear hb4c
        go_wp2_with fail
        refine (A2 _).mono ?_
        rintro e w5c ⟨rfl, hb5c⟩
        obtain ⟨l5c, d5c, rfl⟩ := toExt hb5c
        clear hb5c
        go_wp2
        refine bodyPost_ret (by simp [results, Try.results44, go_sem, ext_cell, World.cell?_alloc_past, ltk2, ltk3, ltk4, ltk5, ltk6, ltk7, ltk8, ltk9, *]; try rfl) rfl ?_
        exact ⟨rfl, by (repeat (first | with_reducible exact b0 _ | (with_reducible refine bext ?_ _ _) | (with_reducible refine below_drewN ?_ _) | (with_reducible refine Below.drew ?_) | (with_reducible refine bal ?_ _)))⟩
      ·
        have A1 := fun w => quarterI (t + (n : Int)) (n : Int) f n (by omega) rfl (by omega) (by omega) (by omega) w
        rw [if_neg (show ¬ n < 4 * f by omega), if_neg (show ¬ n < 4 * f by omega)]
        generalize quL f n = x at *
        generalize quH f n = y at *
        clear hf
        have dAl := dAl; have dSt := dSt; have xC := ext_cell; have xF := ext_frozen; have xS := ext_set; have xN := ext_drewN; have xD := ext_drew; have xL := ext_lt; have xE := ext_ne; have xG := ext_nr; have xX := ext_ext; have xL1 := ext_lt1; have xL2 := ext_lt2; have xL3 := ext_lt3; have xM0 := ext_le0; have xM1 := ext_le1; have xM2 := ext_le2
        go_enter Try.func44, Try.ntmps44
        go_wp2_with fail
        refine (A1 _).mono ?_
        rintro e w6c ⟨rfl, hb6c⟩
        obtain ⟨l6c, d6c, rfl⟩ := toExt hb6c
        clear hb6c
        go_wp2
        refine bodyPost_ret (by simp [results, Try.results44, go_sem, ext_cell, World.cell?_alloc_past, ltk2, ltk3, ltk4, ltk5, ltk6, ltk7, ltk8, ltk9, *]; try rfl) rfl ?_
        exact ⟨rfl, by (repeat (first | with_reducible exact b0 _ | (with_reducible refine bext ?_ _ _) | (with_reducible refine below_drewN ?_ _) | (with_reducible refine Below.drew ?_) | (with_reducible refine bal ?_ _)))⟩
  · obtain rfl : r = t := by omega
    by_cases c2 : n < 2 * r
    · by_cases c3 : n < 4 * ((n : Int) - r)
      ·
        have A1 := fun w => quarterI ((n : Int) - 2 * ((n : Int) - r)) (2 * (n : Int)) (n - 2 * f) (2 * n) (by omega) (by omega) (by omega) (by omega) (by omega) w
        have bd := qu_bd (n - 2 * f) (2 * n) (by omega) (by omega)
        have A2 := fun w => ref5_Neg (quL (n - 2 * f) (2 * n) : Nat) (quH (n - 2 * f) (2 * n) : Nat) (by omega) (by omega) (by omega) (by omega) w
        rw [if_pos (show n < 4 * f by omega), if_pos (show n < 4 * f by omega)]
        generalize quL (n - 2 * f) (2 * n) = x at *
        generalize quH (n - 2 * f) (2 * n) = y at *
        clear hf
        have dAl := dAl; have dSt := dSt; have xC := ext_cell; have xF := ext_frozen; have xS := ext_set; have xN := ext_drewN; have xD := ext_drew; have xL := ext_lt; have xE := ext_ne; have xG := ext_nr; have xX := ext_ext; have xL1 := ext_lt1; have xL2 := ext_lt2; have xL3 := ext_lt3; have xM0 := ext_le0; have xM1 := ext_le1; have xM2 := ext_le2
        go_enter Try.func44, Try.ntmps44
        go_wp2_with fail
        refine (A1 _).mono ?_
        rintro e w7c ⟨rfl, hb7c⟩
        obtain ⟨l7c, d7c, rfl⟩ := toExt hb7c
        clear hb7c
        go_wp2_with fail
        refine (A2 _).mono ?_
        rintro e w8c ⟨rfl, hb8c⟩
        obtain ⟨l8c, d8c, rfl⟩ := toExt hb8c
        clear hb8c
        go_wp2
        refine bodyPost_ret (by simp [results, Try.results44, go_sem, ext_cell, World.cell?_alloc_past, ltk2, ltk3, ltk4, ltk5, ltk6, ltk7, ltk8, ltk9, *]; try rfl) rfl ?_
        exact ⟨rfl, by (repeat (first | with_reducible exact b0 _ | (with_reducible refine bext ?_ _ _) | (with_reducible refine below_drewN ?_ _) | (with_reducible refine Below.drew ?_) | (with_reducible refine bal ?_ _)))⟩
      ·
        have A1 := fun w => quarterI ((n : Int) - r) (n : Int) f n (by omega) rfl (by omega) (by omega) (by omega) w
        rw [if_neg (show ¬ n < 4 * f by omega), if_neg (show ¬ n < 4 * f by omega)]
        generalize quL f n = x at *
        generalize quH f n = y at *
        clear hf
        have dAl := dAl; have dSt := dSt; have xC := ext_cell; have xF := ext_frozen; have xS := ext_set; have xN := ext_drewN; have xD := ext_drew; have xL := ext_lt; have xE := ext_ne; have xG := ext_nr; have xX := ext_ext; have xL1 := ext_lt1; have xL2 := ext_lt2; have xL3 := ext_lt3; have xM0 := ext_le0; have xM1 := ext_le1; have xM2 := ext_le2
        go_enter Try.func44, Try.ntmps44
        go_wp2_with fail
        refine (A1 _).mono ?_
        rintro e w9c ⟨rfl, hb9c⟩
        obtain ⟨l9c, d9c, rfl⟩ := toExt hb9c
        clear hb9c
        go_wp2
        refine bodyPost_ret (by simp [results, Try.results44, go_sem, ext_cell, World.cell?_alloc_past, ltk2, ltk3, ltk4, ltk5, ltk6, ltk7, ltk8, ltk9, *]; try rfl) rfl ?_
        exact ⟨rfl, by (repeat (first | with_reducible exact b0 _ | (with_reducible refine bext ?_ _ _) | (with_reducible refine below_drewN ?_ _) | (with_reducible refine Below.drew ?_) | (with_reducible refine bal ?_ _)))⟩
    · by_cases c3 : n < 4 * r
      ·
        have A1 := fun w => quarterI ((n : Int) - 2 * r) (2 * (n : Int)) (n - 2 * f) (2 * n) (by omega) (by omega) (by omega) (by omega) (by omega) w
        have bd := qu_bd (n - 2 * f) (2 * n) (by omega) (by omega)
        have A2 := fun w => ref5_Neg (quL (n - 2 * f) (2 * n) : Nat) (quH (n - 2 * f) (2 * n) : Nat) (by omega) (by omega) (by omega) (by omega) w
        rw [if_pos (show n < 4 * f by omega), if_pos (show n < 4 * f by omega)]
        generalize quL (n - 2 * f) (2 * n) = x at *
        generalize quH (n - 2 * f) (2 * n) = y at *
        clear hf
        have dAl := dAl; have dSt := dSt; have xC := ext_cell; have xF := ext_frozen; have xS := ext_set; have xN := ext_drewN; have xD := ext_drew; have xL := ext_lt; have xE := ext_ne; have xG := ext_nr; have xX := ext_ext; have xL1 := ext_lt1; have xL2 := ext_lt2; have xL3 := ext_lt3; have xM0 := ext_le0; have xM1 := ext_le1; have xM2 := ext_le2
        go_enter Try.func44, Try.ntmps44
        go_wp2_with fail
        refine (A1 _).mono ?_
        rintro e w10c ⟨rfl, hb10c⟩
        obtain ⟨l10c, d10c, rfl⟩ := toExt hb10c
        clear hb10c
        go_wp2_with fail
        refine (A2 _).mono ?_
        rintro e w11c ⟨rfl, hb11c⟩
        obtain ⟨l11c, d11c, rfl⟩ := toExt hb11c
        clear hb11c
        go_wp2
        refine bodyPost_ret (by simp [results, Try.results44, go_sem, ext_cell, World.cell?_alloc_past, ltk2, ltk3, ltk4, ltk5, ltk6, ltk7, ltk8, ltk9, *]; try rfl) rfl ?_
        exact ⟨rfl, by (repeat (first | with_reducible exact b0 _ | (with_reducible refine bext ?_ _ _) | (with_reducible refine below_drewN ?_ _) | (with_reducible refine Below.drew ?_) | (with_reducible refine bal ?_ _)))⟩
      ·
        have A1 := fun w => quarterI r (n : Int) f n (by omega) rfl (by omega) (by omega) (by omega) w
        rw [if_neg (show ¬ n < 4 * f by omega), if_neg (show ¬ n < 4 * f by omega)]
        generalize quL f n = x at *
        generalize quH f n = y at *
        clear hf
        have dAl := dAl; have dSt := dSt; have xC := ext_cell; have xF := ext_frozen; have xS := ext_set; have xN := ext_drewN; have xD := ext_drew; have xL := ext_lt; have xE := ext_ne; have xG := ext_nr; have xX := ext_ext; have xL1 := ext_lt1; have xL2 := ext_lt2; have xL3 := ext_lt3; have xM0 := ext_le0; have xM1 := ext_le1; have xM2 := ext_le2
        go_enter Try.func44, Try.ntmps44
        go_wp2_with fail
        refine (A1 _).mono ?_
        rintro e w12c ⟨rfl, hb12c⟩
        obtain ⟨l12c, d12c, rfl⟩ := toExt hb12c
        clear hb12c
        go_wp2
        refine bodyPost_ret (by simp [results, Try.results44, go_sem, ext_cell, World.cell?_alloc_past, ltk2, ltk3, ltk4, ltk5, ltk6, ltk7, ltk8, ltk9, *]; try rfl) rfl ?_
        exact ⟨rfl, by (repeat (first | with_reducible exact b0 _ | (with_reducible refine bext ?_ _ _) | (with_reducible refine below_drewN ?_ _) | (with_reducible refine Below.drew ?_) | (with_reducible refine bal ?_ _)))⟩

set_option maxHeartbeats 800000 in
theorem ref5_Cos (k n : Int) (w : World) :
    Calls Try.prog 21 #[.int .i64 k, .int .i64 n] w fun e w' => e = .returned (.tuple #[.agg #[.int .i64 (coL k n), .int .i64 (coH k n)], .int .i64 (coE n)]) ∧ Below w.heap.size w w' := by
  by_cases hn : nOk n = true
  · obtain ⟨n1, n2⟩ := nOk_out hn
    obtain ⟨N, rfl⟩ := Int.eq_ofNat_of_zero_le (show 0 ≤ n by omega)
    have b := tmod_bd k N (by omega)
    have A1 := fun w => ref5_Cosine k N (by omega) (by omega) w
    obtain ⟨u1, u2⟩ := cr_A k N (by omega) (by omega)
    have r1 : coL k N = csL (4 * k.tmod N) N := by rw [coL, if_pos hn, show ((N : Int)).toNat = N by omega]
    have r2 : coH k N = csH (4 * k.tmod N) N := by rw [coH, if_pos hn, show ((N : Int)).toNat = N by omega]
    have r3 : coE (N : Int) = 0 := by rw [coE, if_pos hn]
    have hn0 : (N = 0) = False := by simp; omega
    rw [u1, u2] at A1
    rw [r1, r2, r3]
    clear u1 u2 r1 r2 r3 hn
    generalize csL (4 * k.tmod N) N = x at *
    generalize csH (4 * k.tmod N) N = y at *
    have dAl := dAl; have dSt := dSt; have xC := ext_cell; have xF := ext_frozen; have xS := ext_set; have xN := ext_drewN; have xD := ext_drew; have xL := ext_lt; have xE := ext_ne; have xG := ext_nr; have xX := ext_ext; have xL1 := ext_lt1; have xL2 := ext_lt2; have xL3 := ext_lt3; have xM0 := ext_le0; have xM1 := ext_le1; have xM2 := ext_le2
    go_enter Try.func21, Try.ntmps21
    go_wp2_with fail
    refine (A1 _).mono ?_
    rintro e w13c ⟨rfl, hb13c⟩
    obtain ⟨l13c, d13c, rfl⟩ := toExt hb13c
    clear hb13c
    go_wp2
    refine bodyPost_ret (by simp [results, Try.results21, go_sem, ext_cell, World.cell?_alloc_past, ltk2, ltk3, ltk4, ltk5, ltk6, ltk7, ltk8, ltk9, *]; try rfl) rfl ?_
    exact ⟨rfl, by (repeat (first | with_reducible exact b0 _ | (with_reducible refine bext ?_ _ _) | (with_reducible refine below_drewN ?_ _) | (with_reducible refine Below.drew ?_) | (with_reducible refine bal ?_ _)))⟩
  · have hn' : n < 1 ∨ 720 < n := by
      have : ¬ (1 ≤ n ∧ n ≤ 720) := by simpa [nOk] using hn
      omega
    have r1 : coL k n = 0 := by rw [coL, if_neg hn]
    have r2 : coH k n = 0 := by rw [coH, if_neg hn]
    have r3 : coE n = 2 := by rw [coE, if_neg hn]
    rw [r1, r2, r3]
    clear r1 r2 r3 hn
    rcases hn' with h | h
    ·
      have dAl := dAl; have dSt := dSt; have xC := ext_cell; have xF := ext_frozen; have xS := ext_set; have xN := ext_drewN; have xD := ext_drew; have xL := ext_lt; have xE := ext_ne; have xG := ext_nr; have xX := ext_ext; have xL1 := ext_lt1; have xL2 := ext_lt2; have xL3 := ext_lt3; have xM0 := ext_le0; have xM1 := ext_le1; have xM2 := ext_le2
      go_enter Try.func21, Try.ntmps21
      go_wp2
      refine bodyPost_ret (by simp [results, Try.results21, go_sem, ext_cell, World.cell?_alloc_past, ltk2, ltk3, ltk4, ltk5, ltk6, ltk7, ltk8, ltk9, *]; try rfl) rfl ?_
      exact ⟨rfl, by (repeat (first | with_reducible exact b0 _ | (with_reducible refine bext ?_ _ _) | (with_reducible refine below_drewN ?_ _) | (with_reducible refine Below.drew ?_) | (with_reducible refine bal ?_ _)))⟩
    · have h' : (n < 1) = False := by simp; omega
      have dAl := dAl; have dSt := dSt; have xC := ext_cell; have xF := ext_frozen; have xS := ext_set; have xN := ext_drewN; have xD := ext_drew; have xL := ext_lt; have xE := ext_ne; have xG := ext_nr; have xX := ext_ext; have xL1 := ext_lt1; have xL2 := ext_lt2; have xL3 := ext_lt3; have xM0 := ext_le0; have xM1 := ext_le1; have xM2 := ext_le2
      go_enter Try.func21, Try.ntmps21
      go_wp2
      refine bodyPost_ret (by simp [results, Try.results21, go_sem, ext_cell, World.cell?_alloc_past, ltk2, ltk3, ltk4, ltk5, ltk6, ltk7, ltk8, ltk9, *]; try rfl) rfl ?_
      exact ⟨rfl, by (repeat (first | with_reducible exact b0 _ | (with_reducible refine bext ?_ _ _) | (with_reducible refine below_drewN ?_ _) | (with_reducible refine Below.drew ?_) | (with_reducible refine bal ?_ _)))⟩

set_option maxHeartbeats 800000 in
theorem ref5_Sin (k n : Int) (w : World) :
    Calls Try.prog 22 #[.int .i64 k, .int .i64 n] w fun e w' => e = .returned (.tuple #[.agg #[.int .i64 (siL k n), .int .i64 (siH k n)], .int .i64 (coE n)]) ∧ Below w.heap.size w w' := by
  by_cases hn : nOk n = true
  · obtain ⟨n1, n2⟩ := nOk_out hn
    obtain ⟨N, rfl⟩ := Int.eq_ofNat_of_zero_le (show 0 ≤ n by omega)
    have b := tmod_bd k N (by omega)
    have A1 := fun w => ref5_Cosine ((N : Int) - 4 * k.tmod N) (4 * N) (by omega) (by omega) w
    obtain ⟨u1, u2⟩ := cr_B (k.tmod N) N (by omega) (by omega)
    have r1 : siL k N = csL (4 * k.tmod N - N) N := by rw [siL, if_pos hn, show ((N : Int)).toNat = N by omega]
    have r2 : siH k N = csH (4 * k.tmod N - N) N := by rw [siH, if_pos hn, show ((N : Int)).toNat = N by omega]
    rw [show ((4 * N : Nat) : Int) = 4 * N by omega] at A1
    have r3 : coE (N : Int) = 0 := by rw [coE, if_pos hn]
    have hn0 : (N = 0) = False := by simp; omega
    rw [u1, u2] at A1
    rw [r1, r2, r3]
    clear u1 u2 r1 r2 r3 hn
    generalize csL (4 * k.tmod N - N) N = x at *
    generalize csH (4 * k.tmod N - N) N = y at *
    have dAl := dAl; have dSt := dSt; have xC := ext_cell; have xF := ext_frozen; have xS := ext_set; have xN := ext_drewN; have xD := ext_drew; have xL := ext_lt; have xE := ext_ne; have xG := ext_nr; have xX := ext_ext; have xL1 := ext_lt1; have xL2 := ext_lt2; have xL3 := ext_lt3; have xM0 := ext_le0; have xM1 := ext_le1; have xM2 := ext_le2
    go_enter Try.func22, Try.ntmps22
    go_wp2_with fail
    refine (A1 _).mono ?_
    rintro e w14c ⟨rfl, hb14c⟩
    obtain ⟨l14c, d14c, rfl⟩ := toExt hb14c
    clear hb14c
    go_wp2
    refine bodyPost_ret (by simp [results, Try.results22, go_sem, ext_cell, World.cell?_alloc_past, ltk2, ltk3, ltk4, ltk5, ltk6, ltk7, ltk8, ltk9, *]; try rfl) rfl ?_
    exact ⟨rfl, by (repeat (first | with_reducible exact b0 _ | (with_reducible refine bext ?_ _ _) | (with_reducible refine below_drewN ?_ _) | (with_reducible refine Below.drew ?_) | (with_reducible refine bal ?_ _)))⟩
  · have hn' : n < 1 ∨ 720 < n := by
      have : ¬ (1 ≤ n ∧ n ≤ 720) := by simpa [nOk] using hn
      omega
    have r1 : siL k n = 0 := by rw [siL, if_neg hn]
    have r2 : siH k n = 0 := by rw [siH, if_neg hn]
    have r3 : coE n = 2 := by rw [coE, if_neg hn]
    rw [r1, r2, r3]
    clear r1 r2 r3 hn
    rcases hn' with h | h
    ·
      have dAl := dAl; have dSt := dSt; have xC := ext_cell; have xF := ext_frozen; have xS := ext_set; have xN := ext_drewN; have xD := ext_drew; have xL := ext_lt; have xE := ext_ne; have xG := ext_nr; have xX := ext_ext; have xL1 := ext_lt1; have xL2 := ext_lt2; have xL3 := ext_lt3; have xM0 := ext_le0; have xM1 := ext_le1; have xM2 := ext_le2
      go_enter Try.func22, Try.ntmps22
      go_wp2
      refine bodyPost_ret (by simp [results, Try.results22, go_sem, ext_cell, World.cell?_alloc_past, ltk2, ltk3, ltk4, ltk5, ltk6, ltk7, ltk8, ltk9, *]; try rfl) rfl ?_
      exact ⟨rfl, by (repeat (first | with_reducible exact b0 _ | (with_reducible refine bext ?_ _ _) | (with_reducible refine below_drewN ?_ _) | (with_reducible refine Below.drew ?_) | (with_reducible refine bal ?_ _)))⟩
    · have h' : (n < 1) = False := by simp; omega
      have dAl := dAl; have dSt := dSt; have xC := ext_cell; have xF := ext_frozen; have xS := ext_set; have xN := ext_drewN; have xD := ext_drew; have xL := ext_lt; have xE := ext_ne; have xG := ext_nr; have xX := ext_ext; have xL1 := ext_lt1; have xL2 := ext_lt2; have xL3 := ext_lt3; have xM0 := ext_le0; have xM1 := ext_le1; have xM2 := ext_le2
      go_enter Try.func22, Try.ntmps22
      go_wp2
      refine bodyPost_ret (by simp [results, Try.results22, go_sem, ext_cell, World.cell?_alloc_past, ltk2, ltk3, ltk4, ltk5, ltk6, ltk7, ltk8, ltk9, *]; try rfl) rfl ?_
      exact ⟨rfl, by (repeat (first | with_reducible exact b0 _ | (with_reducible refine bext ?_ _ _) | (with_reducible refine below_drewN ?_ _) | (with_reducible refine Below.drew ?_) | (with_reducible refine bal ?_ _)))⟩

set_option maxHeartbeats 1600000 in
theorem tables5 (k n : Int) (h1 : -9223372036854775808 ≤ k) (h2 : k ≤ 9223372036854775807) (w : World) :
    Calls Try.prog 4 #[.int .i64 k, .int .i64 n] w fun x w' => x = .returned (.bool true) ∧ Below w.heap.size w w' := by
  have A1 := fun w => sine_Cos k n h1 h2 w
  have A2 := fun w => ref5_Cos k n w
  have A3 := fun w => sine_Sin k n h1 h2 w
  have A4 := fun w => ref5_Sin k n w
  generalize coL k n = x at *
  generalize coH k n = y at *
  generalize siL k n = u at *
  generalize siH k n = v at *
  generalize coE n = z at *
  clear h1 h2
  have dAl := dAl; have dSt := dSt; have xC := ext_cell; have xF := ext_frozen; have xS := ext_set; have xN := ext_drewN; have xD := ext_drew; have xL := ext_lt; have xE := ext_ne; have xG := ext_nr; have xX := ext_ext; have xL1 := ext_lt1; have xL2 := ext_lt2; have xL3 := ext_lt3; have xM0 := ext_le0; have xM1 := ext_le1; have xM2 := ext_le2
  go_enter Try.func4, Try.ntmps4
  go_wp2_with fail
  with_reducible refine (A1 _).mono ?_
  rintro e v1 ⟨rfl, hb1⟩
  have zz1 := hb1.size
  try simp [ext_size] at zz1
  have hB1 : Below w.heap.size w v1 := Below.trans (by (repeat (first | with_reducible exact b0 _ | (with_reducible refine bext ?_ _ _) | (with_reducible refine below_drewN ?_ _) | (with_reducible refine Below.drew ?_) | (with_reducible refine bal ?_ _)))) (hb1.mono (by first | omega | (simp [ext_size]; try omega)))
  have zw1 := hB1.size
  clear hb1
  go_wp2_with fail
  with_reducible refine (A2 _).mono ?_
  rintro e v2 ⟨rfl, hb2⟩
  have zz2 := hb2.size
  try simp [ext_size] at zz2
  have cc2_0 : v2.cell? ⟨v1.heap.size, 0, none⟩ = some (.int .i64 x) := (hb2.cell (p := ⟨v1.heap.size, 0, none⟩) (by first | omega | (simp [ext_size]; try omega))).trans (by (simp (maxDischargeDepth := 8) [go_sem, World.cell?_alloc_past, ltk2, ltk3, ltk4, ltk5, ltk6, ltk7, ltk8, ltk9, *]))
  have cc2_1 : v2.cell? ⟨v1.heap.size, 1, none⟩ = some (.int .i64 y) := (hb2.cell (p := ⟨v1.heap.size, 1, none⟩) (by first | omega | (simp [ext_size]; try omega))).trans (by (simp (maxDischargeDepth := 8) [go_sem, World.cell?_alloc_past, ltk2, ltk3, ltk4, ltk5, ltk6, ltk7, ltk8, ltk9, *]))
  have zl2_0 : v1.heap.size < v2.heap.size := by omega
  have hB2 : Below w.heap.size w v2 := Below.trans (by (repeat (first | with_reducible exact hB1 | (with_reducible refine bext ?_ _ _) | (with_reducible refine below_drewN ?_ _) | (with_reducible refine Below.drew ?_) | (with_reducible refine bal ?_ _) | (with_reducible refine bset ?_ (by first | omega | (simp <;> omega)) _)))) (hb2.mono (by first | omega | (simp [ext_size]; try omega)))
  have zw2 := hB2.size
  clear hb2
  clear zz1 zw1 hB1
  go_wp2_with fail
  with_reducible refine (A3 _).mono ?_
  rintro e v3 ⟨rfl, hb3⟩
  have zz3 := hb3.size
  try simp [ext_size] at zz3
  have cc3_0 : v3.cell? ⟨v1.heap.size, 0, none⟩ = some (.int .i64 x) := (hb3.cell (p := ⟨v1.heap.size, 0, none⟩) (by first | omega | (simp [ext_size]; try omega))).trans (by (simp (maxDischargeDepth := 8) [go_sem, World.cell?_alloc_past, ltk2, ltk3, ltk4, ltk5, ltk6, ltk7, ltk8, ltk9, *]))
  have cc3_1 : v3.cell? ⟨v1.heap.size, 1, none⟩ = some (.int .i64 y) := (hb3.cell (p := ⟨v1.heap.size, 1, none⟩) (by first | omega | (simp [ext_size]; try omega))).trans (by (simp (maxDischargeDepth := 8) [go_sem, World.cell?_alloc_past, ltk2, ltk3, ltk4, ltk5, ltk6, ltk7, ltk8, ltk9, *]))
  have cc3_2 : v3.cell? ⟨v2.heap.size, 0, none⟩ = some (.int .i64 x) := (hb3.cell (p := ⟨v2.heap.size, 0, none⟩) (by first | omega | (simp [ext_size]; try omega))).trans (by (simp (maxDischargeDepth := 8) [go_sem, World.cell?_alloc_past, ltk2, ltk3, ltk4, ltk5, ltk6, ltk7, ltk8, ltk9, *]))
  have cc3_3 : v3.cell? ⟨v2.heap.size, 1, none⟩ = some (.int .i64 y) := (hb3.cell (p := ⟨v2.heap.size, 1, none⟩) (by first | omega | (simp [ext_size]; try omega))).trans (by (simp (maxDischargeDepth := 8) [go_sem, World.cell?_alloc_past, ltk2, ltk3, ltk4, ltk5, ltk6, ltk7, ltk8, ltk9, *]))
  have zl3_0 : v1.heap.size < v3.heap.size := by omega
  have zl3_1 : v2.heap.size < v3.heap.size := by omega
  have hB3 : Below w.heap.size w v3 := Below.trans (by (repeat (first | with_reducible exact hB2 | (with_reducible refine bext ?_ _ _) | (with_reducible refine below_drewN ?_ _) | (with_reducible refine Below.drew ?_) | (with_reducible refine bal ?_ _) | (with_reducible refine bset ?_ (by first | omega | (simp <;> omega)) _)))) (hb3.mono (by first | omega | (simp [ext_size]; try omega)))
  have zw3 := hB3.size
  clear hb3
  clear cc2_0 cc2_1 zl2_0 zz2 zw2 hB2
  go_wp2_with fail
  with_reducible refine (A4 _).mono ?_
  rintro e v4 ⟨rfl, hb4⟩
  have zz4 := hb4.size
  try simp [ext_size] at zz4
  have cc4_0 : v4.cell? ⟨v1.heap.size, 0, none⟩ = some (.int .i64 x) := (hb4.cell (p := ⟨v1.heap.size, 0, none⟩) (by first | omega | (simp [ext_size]; try omega))).trans (by (simp (maxDischargeDepth := 8) [go_sem, World.cell?_alloc_past, ltk2, ltk3, ltk4, ltk5, ltk6, ltk7, ltk8, ltk9, *]))
  have cc4_1 : v4.cell? ⟨v1.heap.size, 1, none⟩ = some (.int .i64 y) := (hb4.cell (p := ⟨v1.heap.size, 1, none⟩) (by first | omega | (simp [ext_size]; try omega))).trans (by (simp (maxDischargeDepth := 8) [go_sem, World.cell?_alloc_past, ltk2, ltk3, ltk4, ltk5, ltk6, ltk7, ltk8, ltk9, *]))
  have cc4_2 : v4.cell? ⟨v2.heap.size, 0, none⟩ = some (.int .i64 x) := (hb4.cell (p := ⟨v2.heap.size, 0, none⟩) (by first | omega | (simp [ext_size]; try omega))).trans (by (simp (maxDischargeDepth := 8) [go_sem, World.cell?_alloc_past, ltk2, ltk3, ltk4, ltk5, ltk6, ltk7, ltk8, ltk9, *]))
  have cc4_3 : v4.cell? ⟨v2.heap.size, 1, none⟩ = some (.int .i64 y) := (hb4.cell (p := ⟨v2.heap.size, 1, none⟩) (by first | omega | (simp [ext_size]; try omega))).trans (by (simp (maxDischargeDepth := 8) [go_sem, World.cell?_alloc_past, ltk2, ltk3, ltk4, ltk5, ltk6, ltk7, ltk8, ltk9, *]))
  have cc4_4 : v4.cell? ⟨v3.heap.size, 0, none⟩ = some (.int .i64 u) := (hb4.cell (p := ⟨v3.heap.size, 0, none⟩) (by first | omega | (simp [ext_size]; try omega))).trans (by (simp (maxDischargeDepth := 8) [go_sem, World.cell?_alloc_past, ltk2, ltk3, ltk4, ltk5, ltk6, ltk7, ltk8, ltk9, *]))
  have cc4_5 : v4.cell? ⟨v3.heap.size, 1, none⟩ = some (.int .i64 v) := (hb4.cell (p := ⟨v3.heap.size, 1, none⟩) (by first | omega | (simp [ext_size]; try omega))).trans (by (simp (maxDischargeDepth := 8) [go_sem, World.cell?_alloc_past, ltk2, ltk3, ltk4, ltk5, ltk6, ltk7, ltk8, ltk9, *]))
  have zl4_0 : v1.heap.size < v4.heap.size := by omega
  have zl4_1 : v2.heap.size < v4.heap.size := by omega
  have zl4_2 : v3.heap.size < v4.heap.size := by omega
  have hB4 : Below w.heap.size w v4 := Below.trans (by (repeat (first | with_reducible exact hB3 | (with_reducible refine bext ?_ _ _) | (with_reducible refine below_drewN ?_ _) | (with_reducible refine Below.drew ?_) | (with_reducible refine bal ?_ _) | (with_reducible refine bset ?_ (by first | omega | (simp <;> omega)) _)))) (hb4.mono (by first | omega | (simp [ext_size]; try omega)))
  have zw4 := hB4.size
  clear hb4
  clear cc3_0 cc3_1 cc3_2 cc3_3 zl3_0 zl3_1 zz3 zw3 hB3
  go_wp2
  go_ret
  exact ⟨rfl, by (repeat (first | with_reducible exact hB4 | (with_reducible refine bext ?_ _ _) | (with_reducible refine below_drewN ?_ _) | (with_reducible refine Below.drew ?_) | (with_reducible refine bal ?_ _) | (with_reducible refine bset ?_ (by first | omega | (simp <;> omega)) _)))⟩
end Go.Proofs.Ytilcgbloangcmaa
