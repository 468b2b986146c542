/-
  SineTables, walked.
-/
import Derived.Test.YtmjbeplcabomdaaTf
namespace Go.Proofs.Ytmjbeplcabomdaa
open Go.RowKit
set_option linter.unusedVariables false
set_option linter.unusedSimpArgs false

theorem quarterI (a b : Int) (k n : Nat) (ha : a = k) (hb : b = n) (h1 : 1 ≤ n) (h2 : n ≤ 6000) (hk : 4 * k ≤ n) (w : World) :
    Calls Try.prog 96 #[.int .i64 a, .int .i64 b] w fun e w' => e = .returned (.agg #[.int .i64 ((quL k n : Nat)), .int .i64 ((quH k n : Nat))]) ∧ Below w.heap.size w w' := by
  subst ha hb; exact ref5_quarter k n h1 h2 hk w
theorem qu_bd (k n : Nat) (h1 : 1 ≤ n) (hk : 4 * k ≤ n) : quL k n ≤ 3000000 ∧ quH k n ≤ 3000001 := by
  have key : ∀ (z : Bool) (x : Nat), x ≤ 200000000000000000 → cond z (rnd x) (flo x) ≤ 3000000 := by
    intro z x hx
    cases z
    · rw [cond_false, flo_eq]; omega
    · rw [cond_true, rnd_eq]; omega
  have hL : quL k n ≤ 3000000 := by
    by_cases c : 8 * k ≤ n
    · rw [(qu_lo c).2]; exact key _ _ (co_bd h1 c).1
    · rw [(qu_hi c).2]; exact key _ _ (co_bd (show 1 ≤ 4 * n by omega) (by omega)).2
  refine ⟨hL, ?_⟩
  rw [qu_H]
  cases quX k n
  · rw [cond_false]; omega
  · rw [cond_true]; omega

set_option maxHeartbeats 1600000 in
theorem ref5_Cosine (k : Int) (n : Nat) (h1 : 1 ≤ n) (h2 : n ≤ 2500 ∨ n ≤ 2880) (w : World) :
    Calls Try.prog 87 #[.int .i64 k, .int .i64 n] w fun e w' => e = .returned (.agg #[.int .i64 (crL k n), .int .i64 (crH k n)]) ∧ Below w.heap.size w w' := by
  have ht := tmod_bd k n (by omega)
  have he : k % (n : Int) = k.tmod n ∨ k % (n : Int) = k.tmod n + n := by
    rw [Int.tmod_eq_emod]
    split
    · left; omega
    · right; have : ((n : Int)).natAbs = n := by omega
      omega
  have hn := Int.emod_nonneg k (show (n : Int) ≠ 0 by omega)
  have hl := Int.emod_lt_of_pos k (show (0 : Int) < n by omega)
  have hf : fdN k n = min (k % n).toNat (n - (k % n).toNat) := rfl
  have r1 : crL k n = if n < 4 * fdN k n then -((quH (n - 2 * fdN k n) (2 * n) : Nat) : Int) else (quL (fdN k n) n : Nat) := rfl
  have r2 : crH k n = if n < 4 * fdN k n then -((quL (n - 2 * fdN k n) (2 * n) : Nat) : Int) else (quH (fdN k n) n : Nat) := rfl
  rw [r1, r2]
  clear r1 r2
  generalize fdN k n = f at *
  generalize k % (n : Int) = r at *
  obtain ⟨t, htt⟩ : ∃ t, k.tmod n = t := ⟨_, rfl⟩
  rw [htt] at ht he
  have hn0 : (n = 0) = False := by simp; omega
  by_cases c1 : t < 0
  · obtain rfl : r = t + n := by omega
    by_cases c2 : n < 2 * (t + (n : Int))
    · by_cases c3 : n < 4 * ((n : Int) - (t + n))
      ·
        have A1 := fun w => quarterI ((n : Int) - 2 * ((n : Int) - (t + (n : Int)))) (2 * (n : Int)) (n - 2 * f) (2 * n) (by omega) (by omega) (by omega) (by omega) (by omega) w
        have bd := qu_bd (n - 2 * f) (2 * n) (by omega) (by omega)
        have A2 := fun w => ref5_Neg (quL (n - 2 * f) (2 * n) : Nat) (quH (n - 2 * f) (2 * n) : Nat) (by omega) (by omega) (by omega) (by omega) w
        rw [if_pos (show n < 4 * f by omega), if_pos (show n < 4 * f by omega)]
        generalize quL (n - 2 * f) (2 * n) = x at *
        generalize quH (n - 2 * f) (2 * n) = y at *
        clear hf
        have dAl := dAl; have dSt := dSt; have xC := ext_cell; have xF := ext_frozen; have xS := ext_set; have xN := ext_drewN; have xD := ext_drew; have xL := ext_lt; have xE := ext_ne; have xG := ext_nr; have xX := ext_ext; have xL1 := ext_lt1; have xL2 := ext_lt2; have xL3 := ext_lt3; have xM0 := ext_le0; have xM1 := ext_le1; have xM2 := ext_le2
        go_enter Try.func87, Try.ntmps87
        go_wp2_with fail
        refine (A1 _).mono ?_
        rintro e w1c ⟨rfl, hb1c⟩
        obtain ⟨l1c, d1c, rfl⟩ := toExt hb1c
        clear hb1c
        go_wp2_with fail
        refine (A2 _).mono ?_
        rintro e w2c ⟨rfl, hb2c⟩
        obtain ⟨l2c, d2c, rfl⟩ := toExt hb2c
        clear hb2c
        go_wp2
        refine bodyPost_ret (by simp [results, Try.results87, go_sem, ext_cell, World.cell?_alloc_past, ltk2, ltk3, ltk4, ltk5, ltk6, ltk7, ltk8, ltk9, *]; try rfl) rfl ?_
        exact ⟨rfl, by (repeat (first | with_reducible exact b0 _ | (with_reducible refine bext ?_ _ _) | (with_reducible refine below_drewN ?_ _) | (with_reducible refine Below.drew ?_) | (with_reducible refine bal ?_ _)))⟩
      ·
        have A1 := fun w => quarterI ((n : Int) - (t + (n : Int))) (n : Int) f n (by omega) rfl (by omega) (by omega) (by omega) w
        rw [if_neg (show ¬ n < 4 * f by omega), if_neg (show ¬ n < 4 * f by omega)]
        generalize quL f n = x at *
        generalize quH f n = y at *
        clear hf
        have dAl := dAl; have dSt := dSt; have xC := ext_cell; have xF := ext_frozen; have xS := ext_set; have xN := ext_drewN; have xD := ext_drew; have xL := ext_lt; have xE := ext_ne; have xG := ext_nr; have xX := ext_ext; have xL1 := ext_lt1; have xL2 := ext_lt2; have xL3 := ext_lt3; have xM0 := ext_le0; have xM1 := ext_le1; have xM2 := ext_le2
        go_enter Try.func87, Try.ntmps87
        go_wp2_with fail
        refine (A1 _).mono ?_
        rintro e w3c ⟨rfl, hb3c⟩
        obtain ⟨l3c, d3c, rfl⟩ := toExt hb3c
        clear hb3c
        go_wp2
        refine bodyPost_ret (by simp [results, Try.results87, go_sem, ext_cell, World.cell?_alloc_past, ltk2, ltk3, ltk4, ltk5, ltk6, ltk7, ltk8, ltk9, *]; try rfl) rfl ?_
        exact ⟨rfl, by (repeat (first | with_reducible exact b0 _ | (with_reducible refine bext ?_ _ _) | (with_reducible refine below_drewN ?_ _) | (with_reducible refine Below.drew ?_) | (with_reducible refine bal ?_ _)))⟩
    · by_cases c3 : n < 4 * (t + (n : Int))
      ·
        have A1 := fun w => quarterI ((n : Int) - 2 * (t + (n : Int))) (2 * (n : Int)) (n - 2 * f) (2 * n) (by omega) (by omega) (by omega) (by omega) (by omega) w
        have bd := qu_bd (n - 2 * f) (2 * n) (by omega) (by omega)
        have A2 := fun w => ref5_Neg (quL (n - 2 * f) (2 * n) : Nat) (quH (n - 2 * f) (2 * n) : Nat) (by omega) (by omega) (by omega) (by omega) w
        rw [if_pos (show n < 4 * f by omega), if_pos (show n < 4 * f by omega)]
        generalize quL (n - 2 * f) (2 * n) = x at *
        generalize quH (n - 2 * f) (2 * n) = y at *
        clear hf
        have dAl := dAl; have dSt := dSt; have xC := ext_cell; have xF := ext_frozen; have xS := ext_set; have xN := ext_drewN; have xD := ext_drew; have xL := ext_lt; have xE := ext_ne; have xG := ext_nr; have xX := ext_ext; have xL1 := ext_lt1; have xL2 := ext_lt2; have xL3 := ext_lt3; have xM0 := ext_le0; have xM1 := ext_le1; have xM2 := ext_le2
        go_enter Try.func87, Try.ntmps87
        go_wp2_with fail
        refine (A1 _).mono ?_
        rintro e w4c ⟨rfl, hb4c⟩
        obtain ⟨l4c, d4c, rfl⟩ := toExt hb4c
        clear hb4c
        go_wp2_with fail
        refine (A2 _).mono ?_
        rintro e w5c ⟨rfl, hb5c⟩
        obtain ⟨l5c, d5c, rfl⟩ := toExt hb5c
        clear hb5c
        go_wp2
        refine bodyPost_ret (by simp [results, Try.results87, go_sem, ext_cell, World.cell?_alloc_past, ltk2, ltk3, ltk4, ltk5, ltk6, ltk7, ltk8, ltk9, *]; try rfl) rfl ?_
        exact ⟨rfl, by (repeat (first | with_reducible exact b0 _ | (with_reducible refine bext ?_ _ _) | (with_reducible refine below_drewN ?_ _) | (with_reducible refine Below.drew ?_) | (with_reducible refine bal ?_ _)))⟩
      ·
        have A1 := fun w => quarterI (t + (n : Int)) (n : Int) f n (by omega) rfl (by omega) (by omega) (by omega) w
        rw [if_neg (show ¬ n < 4 * f by omega), if_neg (show ¬ n < 4 * f by omega)]
        generalize quL f n = x at *
        generalize quH f n = y at *
        clear hf
        have dAl := dAl; have dSt := dSt; have xC := ext_cell; have xF := ext_frozen; have xS := ext_set; have xN := ext_drewN; have xD := ext_drew; have xL := ext_lt; have xE := ext_ne; have xG := ext_nr; have xX := ext_ext; have xL1 := ext_lt1; have xL2 := ext_lt2; have xL3 := ext_lt3; have xM0 := ext_le0; have xM1 := ext_le1; have xM2 := ext_le2
        go_enter Try.func87, Try.ntmps87
        go_wp2_with fail
        refine (A1 _).mono ?_
        rintro e w6c ⟨rfl, hb6c⟩
        obtain ⟨l6c, d6c, rfl⟩ := toExt hb6c
        clear hb6c
        go_wp2
        refine bodyPost_ret (by simp [results, Try.results87, go_sem, ext_cell, World.cell?_alloc_past, ltk2, ltk3, ltk4, ltk5, ltk6, ltk7, ltk8, ltk9, *]; try rfl) rfl ?_
        exact ⟨rfl, by (repeat (first | with_reducible exact b0 _ | (with_reducible refine bext ?_ _ _) | (with_reducible refine below_drewN ?_ _) | (with_reducible refine Below.drew ?_) | (with_reducible refine bal ?_ _)))⟩
  · obtain rfl : r = t := by omega
    by_cases c2 : n < 2 * r
    · by_cases c3 : n < 4 * ((n : Int) - r)
      ·
        have A1 := fun w => quarterI ((n : Int) - 2 * ((n : Int) - r)) (2 * (n : Int)) (n - 2 * f) (2 * n) (by omega) (by omega) (by omega) (by omega) (by omega) w
        have bd := qu_bd (n - 2 * f) (2 * n) (by omega) (by omega)
        have A2 := fun w => ref5_Neg (quL (n - 2 * f) (2 * n) : Nat) (quH (n - 2 * f) (2 * n) : Nat) (by omega) (by omega) (by omega) (by omega) w
        rw [if_pos (show n < 4 * f by omega), if_pos (show n < 4 * f by omega)]
        generalize quL (n - 2 * f) (2 * n) = x at *
        generalize quH (n - 2 * f) (2 * n) = y at *
        clear hf
        have dAl := dAl; have dSt := dSt; have xC := ext_cell; have xF := ext_frozen; have xS := ext_set; have xN := ext_drewN; have xD := ext_drew; have xL := ext_lt; have xE := ext_ne; have xG := ext_nr; have xX := ext_ext; have xL1 := ext_lt1; have xL2 := ext_lt2; have xL3 := ext_lt3; have xM0 := ext_le0; have xM1 := ext_le1; have xM2 := ext_le2
        go_enter Try.func87, Try.ntmps87
        go_wp2_with fail
        refine (A1 _).mono ?_
        rintro e w7c ⟨rfl, hb7c⟩
        obtain ⟨l7c, d7c, rfl⟩ := toExt hb7c
        clear hb7c
        go_wp2_with fail
        refine (A2 _).mono ?_
        rintro e w8c ⟨rfl, hb8c⟩
        obtain ⟨l8c, d8c, rfl⟩ := toExt hb8c
        clear hb8c
        go_wp2
        refine bodyPost_ret (by simp [results, Try.results87, go_sem, ext_cell, World.cell?_alloc_past, ltk2, ltk3, ltk4, ltk5, ltk6, ltk7, ltk8, ltk9, *]; try rfl) rfl ?_
        exact ⟨rfl, by (repeat (first | with_reducible exact b0 _ | (with_reducible refine bext ?_ _ _) | (with_reducible refine below_drewN ?_ _) | (with_reducible refine Below.drew ?_) | (with_reducible refine bal ?_ _)))⟩
      ·
        have A1 := fun w => quarterI ((n : Int) - r) (n : Int) f n (by omega) rfl (by omega) (by omega) (by omega) w
        rw [if_neg (show ¬ n < 4 * f by omega), if_neg (show ¬ n < 4 * f by omega)]
        generalize quL f n = x at *
        generalize quH f n = y at *
        clear hf
        have dAl := dAl; have dSt := dSt; have xC := ext_cell; have xF := ext_frozen; have xS := ext_set; have xN := ext_drewN; have xD := ext_drew; have xL := ext_lt; have xE := ext_ne; have xG := ext_nr; have xX := ext_ext; have xL1 := ext_lt1; have xL2 := ext_lt2; have xL3 := ext_lt3; have xM0 := ext_le0; have xM1 := ext_le1; have xM2 := ext_le2
        go_enter Try.func87, Try.ntmps87
        go_wp2_with fail
        refine (A1 _).mono ?_
        rintro e w9c ⟨rfl, hb9c⟩
        obtain ⟨l9c, d9c, rfl⟩ := toExt hb9c
        clear hb9c
        go_wp2
        refine bodyPost_ret (by simp [results, Try.results87, go_sem, ext_cell, World.cell?_alloc_past, ltk2, ltk3, ltk4, ltk5, ltk6, ltk7, ltk8, ltk9, *]; try rfl) rfl ?_
        exact ⟨rfl, by (repeat (first | with_reducible exact b0 _ | (with_reducible refine bext ?_ _ _) | (with_reducible refine below_drewN ?_ _) | (with_reducible refine Below.drew ?_) | (with_reducible refine bal ?_ _)))⟩
    · by_cases c3 : n < 4 * r
      ·
        have A1 := fun w => quarterI ((n : Int) - 2 * r) (2 * (n : Int)) (n - 2 * f) (2 * n) (by omega) (by omega) (by omega) (by omega) (by omega) w
        have bd := qu_bd (n - 2 * f) (2 * n) (by omega) (by omega)
        have A2 := fun w => ref5_Neg (quL (n - 2 * f) (2 * n) : Nat) (quH (n - 2 * f) (2 * n) : Nat) (by omega) (by omega) (by omega) (by omega) w
        rw [if_pos (show n < 4 * f by omega), if_pos (show n < 4 * f by omega)]
        generalize quL (n - 2 * f) (2 * n) = x at *
        generalize quH (n - 2 * f) (2 * n) = y at *
        clear hf
        have dAl := dAl; have dSt := dSt; have xC := ext_cell; have xF := ext_frozen; have xS := ext_set; have xN := ext_drewN; have xD := ext_drew; have xL := ext_lt; have xE := ext_ne; have xG := ext_nr; have xX := ext_ext; have xL1 := ext_lt1; have xL2 := ext_lt2; have xL3 := ext_lt3; have xM0 := ext_le0; have xM1 := ext_le1; have xM2 := ext_le2
        go_enter Try.func87, Try.ntmps87
        go_wp2_with fail
        refine (A1 _).mono ?_
        rintro e w10c ⟨rfl, hb10c⟩
        obtain ⟨l10c, d10c, rfl⟩ := toExt hb10c
        clear hb10c
        go_wp2_with fail
        refine (A2 _).mono ?_
        rintro e w11c ⟨rfl, hb11c⟩
        obtain ⟨l11c, d11c, rfl⟩ := toExt hb11c
        clear hb11c
        go_wp2
        refine bodyPost_ret (by simp [results, Try.results87, go_sem, ext_cell, World.cell?_alloc_past, ltk2, ltk3, ltk4, ltk5, ltk6, ltk7, ltk8, ltk9, *]; try rfl) rfl ?_
        exact ⟨rfl, by (repeat (first | with_reducible exact b0 _ | (with_reducible refine bext ?_ _ _) | (with_reducible refine below_drewN ?_ _) | (with_reducible refine Below.drew ?_) | (with_reducible refine bal ?_ _)))⟩
      ·
        have A1 := fun w => quarterI r (n : Int) f n (by omega) rfl (by omega) (by omega) (by omega) w
        rw [if_neg (show ¬ n < 4 * f by omega), if_neg (show ¬ n < 4 * f by omega)]
        generalize quL f n = x at *
        generalize quH f n = y at *
        clear hf
        have dAl := dAl; have dSt := dSt; have xC := ext_cell; have xF := ext_frozen; have xS := ext_set; have xN := ext_drewN; have xD := ext_drew; have xL := ext_lt; have xE := ext_ne; have xG := ext_nr; have xX := ext_ext; have xL1 := ext_lt1; have xL2 := ext_lt2; have xL3 := ext_lt3; have xM0 := ext_le0; have xM1 := ext_le1; have xM2 := ext_le2
        go_enter Try.func87, Try.ntmps87
        go_wp2_with fail
        refine (A1 _).mono ?_
        rintro e w12c ⟨rfl, hb12c⟩
        obtain ⟨l12c, d12c, rfl⟩ := toExt hb12c
        clear hb12c
        go_wp2
        refine bodyPost_ret (by simp [results, Try.results87, go_sem, ext_cell, World.cell?_alloc_past, ltk2, ltk3, ltk4, ltk5, ltk6, ltk7, ltk8, ltk9, *]; try rfl) rfl ?_
        exact ⟨rfl, by (repeat (first | with_reducible exact b0 _ | (with_reducible refine bext ?_ _ _) | (with_reducible refine below_drewN ?_ _) | (with_reducible refine Below.drew ?_) | (with_reducible refine bal ?_ _)))⟩

set_option maxHeartbeats 800000 in
theorem ref5_Cos (k n : Int) (w : World) :
    Calls Try.prog 71 #[.int .i64 k, .int .i64 n] w fun e w' => e = .returned (.tuple #[.agg #[.int .i64 (coL k n), .int .i64 (coH k n)], .int .i64 (coE n)]) ∧ Below w.heap.size w w' := by
  by_cases hn : nOk n = true
  · obtain ⟨n1, n2⟩ := nOk_out hn
    obtain ⟨N, rfl⟩ := Int.eq_ofNat_of_zero_le (show 0 ≤ n by omega)
    have b := tmod_bd k N (by omega)
    have A1 := fun w => ref5_Cosine k N (by omega) (by omega) w
    obtain ⟨u1, u2⟩ := cr_A k N (by omega) (by omega)
    have r1 : coL k N = csL (4 * k.tmod N) N := by rw [coL, if_pos hn, show ((N : Int)).toNat = N by omega]
    have r2 : coH k N = csH (4 * k.tmod N) N := by rw [coH, if_pos hn, show ((N : Int)).toNat = N by omega]
    have r3 : coE (N : Int) = 0 := by rw [coE, if_pos hn]
    have hn0 : (N = 0) = False := by simp; omega
    rw [u1, u2] at A1
    rw [r1, r2, r3]
    clear u1 u2 r1 r2 r3 hn
    generalize csL (4 * k.tmod N) N = x at *
    generalize csH (4 * k.tmod N) N = y at *
    have dAl := dAl; have dSt := dSt; have xC := ext_cell; have xF := ext_frozen; have xS := ext_set; have xN := ext_drewN; have xD := ext_drew; have xL := ext_lt; have xE := ext_ne; have xG := ext_nr; have xX := ext_ext; have xL1 := ext_lt1; have xL2 := ext_lt2; have xL3 := ext_lt3; have xM0 := ext_le0; have xM1 := ext_le1; have xM2 := ext_le2
    go_enter Try.func71, Try.ntmps71
    go_wp2_with fail
    refine (A1 _).mono ?_
    rintro e w13c ⟨rfl, hb13c⟩
    obtain ⟨l13c, d13c, rfl⟩ := toExt hb13c
    clear hb13c
    go_wp2
    refine bodyPost_ret (by simp [results, Try.results71, go_sem, ext_cell, World.cell?_alloc_past, ltk2, ltk3, ltk4, ltk5, ltk6, ltk7, ltk8, ltk9, *]; try rfl) rfl ?_
    exact ⟨rfl, by (repeat (first | with_reducible exact b0 _ | (with_reducible refine bext ?_ _ _) | (with_reducible refine below_drewN ?_ _) | (with_reducible refine Below.drew ?_) | (with_reducible refine bal ?_ _)))⟩
  · have hn' : n < 1 ∨ 720 < n := by
      have : ¬ (1 ≤ n ∧ n ≤ 720) := by simpa [nOk] using hn
      omega
    have r1 : coL k n = 0 := by rw [coL, if_neg hn]
    have r2 : coH k n = 0 := by rw [coH, if_neg hn]
    have r3 : coE n = 2 := by rw [coE, if_neg hn]
    rw [r1, r2, r3]
    clear r1 r2 r3 hn
    rcases hn' with h | h
    ·
      have dAl := dAl; have dSt := dSt; have xC := ext_cell; have xF := ext_frozen; have xS := ext_set; have xN := ext_drewN; have xD := ext_drew; have xL := ext_lt; have xE := ext_ne; have xG := ext_nr; have xX := ext_ext; have xL1 := ext_lt1; have xL2 := ext_lt2; have xL3 := ext_lt3; have xM0 := ext_le0; have xM1 := ext_le1; have xM2 := ext_le2
      go_enter Try.func71, Try.ntmps71
      go_wp2
      refine bodyPost_ret (by simp [results, Try.results71, go_sem, ext_cell, World.cell?_alloc_past, ltk2, ltk3, ltk4, ltk5, ltk6, ltk7, ltk8, ltk9, *]; try rfl) rfl ?_
      exact ⟨rfl, by (repeat (first | with_reducible exact b0 _ | (with_reducible refine bext ?_ _ _) | (with_reducible refine below_drewN ?_ _) | (with_reducible refine Below.drew ?_) | (with_reducible refine bal ?_ _)))⟩
    · have h' : (n < 1) = False := by simp; omega
      have dAl := dAl; have dSt := dSt; have xC := ext_cell; have xF := ext_frozen; have xS := ext_set; have xN := ext_drewN; have xD := ext_drew; have xL := ext_lt; have xE := ext_ne; have xG := ext_nr; have xX := ext_ext; have xL1 := ext_lt1; have xL2 := ext_lt2; have xL3 := ext_lt3; have xM0 := ext_le0; have xM1 := ext_le1; have xM2 := ext_le2
      go_enter Try.func71, Try.ntmps71
      go_wp2
      refine bodyPost_ret (by simp [results, Try.results71, go_sem, ext_cell, World.cell?_alloc_past, ltk2, ltk3, ltk4, ltk5, ltk6, ltk7, ltk8, ltk9, *]; try rfl) rfl ?_
      exact ⟨rfl, by (repeat (first | with_reducible exact b0 _ | (with_reducible refine bext ?_ _ _) | (with_reducible refine below_drewN ?_ _) | (with_reducible refine Below.drew ?_) | (with_reducible refine bal ?_ _)))⟩

set_option maxHeartbeats 800000 in
theorem ref5_Sin (k n : Int) (w : World) :
    Calls Try.prog 72 #[.int .i64 k, .int .i64 n] w fun e w' => e = .returned (.tuple #[.agg #[.int .i64 (siL k n), .int .i64 (siH k n)], .int .i64 (coE n)]) ∧ Below w.heap.size w w' := by
  by_cases hn : nOk n = true
  · obtain ⟨n1, n2⟩ := nOk_out hn
    obtain ⟨N, rfl⟩ := Int.eq_ofNat_of_zero_le (show 0 ≤ n by omega)
    have b := tmod_bd k N (by omega)
    have A1 := fun w => ref5_Cosine ((N : Int) - 4 * k.tmod N) (4 * N) (by omega) (by omega) w
    obtain ⟨u1, u2⟩ := cr_B (k.tmod N) N (by omega) (by omega)
    have r1 : siL k N = csL (4 * k.tmod N - N) N := by rw [siL, if_pos hn, show ((N : Int)).toNat = N by omega]
    have r2 : siH k N = csH (4 * k.tmod N - N) N := by rw [siH, if_pos hn, show ((N : Int)).toNat = N by omega]
    rw [show ((4 * N : Nat) : Int) = 4 * N by omega] at A1
    have r3 : coE (N : Int) = 0 := by rw [coE, if_pos hn]
    have hn0 : (N = 0) = False := by simp; omega
    rw [u1, u2] at A1
    rw [r1, r2, r3]
    clear u1 u2 r1 r2 r3 hn
    generalize csL (4 * k.tmod N - N) N = x at *
    generalize csH (4 * k.tmod N - N) N = y at *
    have dAl := dAl; have dSt := dSt; have xC := ext_cell; have xF := ext_frozen; have xS := ext_set; have xN := ext_drewN; have xD := ext_drew; have xL := ext_lt; have xE := ext_ne; have xG := ext_nr; have xX := ext_ext; have xL1 := ext_lt1; have xL2 := ext_lt2; have xL3 := ext_lt3; have xM0 := ext_le0; have xM1 := ext_le1; have xM2 := ext_le2
    go_enter Try.func72, Try.ntmps72
    go_wp2_with fail
    refine (A1 _).mono ?_
    rintro e w14c ⟨rfl, hb14c⟩
    obtain ⟨l14c, d14c, rfl⟩ := toExt hb14c
    clear hb14c
    go_wp2
    refine bodyPost_ret (by simp [results, Try.results72, go_sem, ext_cell, World.cell?_alloc_past, ltk2, ltk3, ltk4, ltk5, ltk6, ltk7, ltk8, ltk9, *]; try rfl) rfl ?_
    exact ⟨rfl, by (repeat (first | with_reducible exact b0 _ | (with_reducible refine bext ?_ _ _) | (with_reducible refine below_drewN ?_ _) | (with_reducible refine Below.drew ?_) | (with_reducible refine bal ?_ _)))⟩
  · have hn' : n < 1 ∨ 720 < n := by
      have : ¬ (1 ≤ n ∧ n ≤ 720) := by simpa [nOk] using hn
      omega
    have r1 : siL k n = 0 := by rw [siL, if_neg hn]
    have r2 : siH k n = 0 := by rw [siH, if_neg hn]
    have r3 : coE n = 2 := by rw [coE, if_neg hn]
    rw [r1, r2, r3]
    clear r1 r2 r3 hn
    rcases hn' with h | h
    ·
      have dAl := dAl; have dSt := dSt; have xC := ext_cell; have xF := ext_frozen; have xS := ext_set; have xN := ext_drewN; have xD := ext_drew; have xL := ext_lt; have xE := ext_ne; have xG := ext_nr; have xX := ext_ext; have xL1 := ext_lt1; have xL2 := ext_lt2; have xL3 := ext_lt3; have xM0 := ext_le0; have xM1 := ext_le1; have xM2 := ext_le2
      go_enter Try.func72, Try.ntmps72
      go_wp2
      refine bodyPost_ret (by simp [results, Try.results72, go_sem, ext_cell, World.cell?_alloc_past, ltk2, ltk3, ltk4, ltk5, ltk6, ltk7, ltk8, ltk9, *]; try rfl) rfl ?_
      exact ⟨rfl, by (repeat (first | with_reducible exact b0 _ | (with_reducible refine bext ?_ _ _) | (with_reducible refine below_drewN ?_ _) | (with_reducible refine Below.drew ?_) | (with_reducible refine bal ?_ _)))⟩
    · have h' : (n < 1) = False := by simp; omega
      have dAl := dAl; have dSt := dSt; have xC := ext_cell; have xF := ext_frozen; have xS := ext_set; have xN := ext_drewN; have xD := ext_drew; have xL := ext_lt; have xE := ext_ne; have xG := ext_nr; have xX := ext_ext; have xL1 := ext_lt1; have xL2 := ext_lt2; have xL3 := ext_lt3; have xM0 := ext_le0; have xM1 := ext_le1; have xM2 := ext_le2
      go_enter Try.func72, Try.ntmps72
      go_wp2
      refine bodyPost_ret (by simp [results, Try.results72, go_sem, ext_cell, World.cell?_alloc_past, ltk2, ltk3, ltk4, ltk5, ltk6, ltk7, ltk8, ltk9, *]; try rfl) rfl ?_
      exact ⟨rfl, by (repeat (first | with_reducible exact b0 _ | (with_reducible refine bext ?_ _ _) | (with_reducible refine below_drewN ?_ _) | (with_reducible refine Below.drew ?_) | (with_reducible refine bal ?_ _)))⟩

end Go.Proofs.Ytmjbeplcabomdaa
