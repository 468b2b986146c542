/-
  The code's cosines and sines: Cos and Sin, walked.
-/
import Derived.Test.YtmjbeplcabomdaaSp
namespace Go.Proofs.Ytmjbeplcabomdaa
open Go.RowKit
set_option linter.unusedVariables false
set_option linter.unusedSimpArgs false

set_option maxHeartbeats 800000 in
theorem sine_acute (a n : Nat) (h1 : 1 ≤ n) (h2 : n ≤ 720) (ha : a ≤ n) (w : World) :
    Calls Try.prog 86 #[.int .i64 a, .int .i64 n] w fun e w' => e = .returned (.agg #[.int .i64 ((acL a n : Nat)), .int .i64 ((acH a n : Nat))]) ∧ Below w.heap.size w w' := by
  by_cases e0 : a = 0
  · subst e0
    rw [(ac_zero n).1, (ac_zero n).2]
    have dAl := dAl; have dSt := dSt; have xC := ext_cell; have xF := ext_frozen; have xS := ext_set; have xN := ext_drewN; have xD := ext_drew; have xL := ext_lt; have xE := ext_ne; have xG := ext_nr; have xX := ext_ext; have xL1 := ext_lt1; have xL2 := ext_lt2; have xL3 := ext_lt3; have xM0 := ext_le0; have xM1 := ext_le1; have xM2 := ext_le2
    go_enter Try.func86, Try.ntmps86
    go_wp2
    refine bodyPost_ret (by simp [results, Try.results86, go_sem, ext_ext, ext_cell]; try rfl) rfl ?_
    exact ⟨rfl, by (repeat (first | with_reducible exact b0 _ | (with_reducible refine bext ?_ _ _) | (with_reducible refine below_drewN ?_ _) | (with_reducible refine Below.drew ?_) | (with_reducible refine bal ?_ _)))⟩
  · have t0 : ((a : Int) == 0) = false := by simp; omega
    by_cases e1 : 3 * a = 2 * n
    · rw [(ac_half e0 e1).1, (ac_half e0 e1).2]
      have t1 : ((3 * (a : Int)) == 2 * n) = true := by simp; omega
      clear e1
      have dAl := dAl; have dSt := dSt; have xC := ext_cell; have xF := ext_frozen; have xS := ext_set; have xN := ext_drewN; have xD := ext_drew; have xL := ext_lt; have xE := ext_ne; have xG := ext_nr; have xX := ext_ext; have xL1 := ext_lt1; have xL2 := ext_lt2; have xL3 := ext_lt3; have xM0 := ext_le0; have xM1 := ext_le1; have xM2 := ext_le2
      go_enter Try.func86, Try.ntmps86
      go_wp2
      refine bodyPost_ret (by simp [results, Try.results86, go_sem, ext_ext, ext_cell]; try rfl) rfl ?_
      exact ⟨rfl, by (repeat (first | with_reducible exact b0 _ | (with_reducible refine bext ?_ _ _) | (with_reducible refine below_drewN ?_ _) | (with_reducible refine Below.drew ?_) | (with_reducible refine bal ?_ _)))⟩
    · have t1 : ((3 * (a : Int)) == 2 * n) = false := by simp; omega
      by_cases e2 : a = n
      · rw [e2, (ac_full (n := n) (by omega)).1, (ac_full (n := n) (by omega)).2]
        rw [e2] at t0 t1
        clear e1 e0 e2
        have dAl := dAl; have dSt := dSt; have xC := ext_cell; have xF := ext_frozen; have xS := ext_set; have xN := ext_drewN; have xD := ext_drew; have xL := ext_lt; have xE := ext_ne; have xG := ext_nr; have xX := ext_ext; have xL1 := ext_lt1; have xL2 := ext_lt2; have xL3 := ext_lt3; have xM0 := ext_le0; have xM1 := ext_le1; have xM2 := ext_le2
        go_enter Try.func86, Try.ntmps86
        go_wp2
        refine bodyPost_ret (by simp [results, Try.results86, go_sem, ext_ext, ext_cell]; try rfl) rfl ?_
        exact ⟨rfl, by (repeat (first | with_reducible exact b0 _ | (with_reducible refine bext ?_ _ _) | (with_reducible refine below_drewN ?_ _) | (with_reducible refine Below.drew ?_) | (with_reducible refine bal ?_ _)))⟩
      · have t2 : ((a : Int) == n) = false := by simp; omega
        obtain ⟨p, q, r⟩ := last_all n a h1 h2 (by omega) (by omega) e1
        have A1 := fun w => sine_series a n h1 h2 ha p w
        rw [(ac_else e0 e1 e2).1, (ac_else e0 e1 e2).2]
        have hx := xs_eq a n
        have x1 : 10 ≤ xsN a n ∧ xsN a n ≤ 999999999999999989 := by omega
        have d1 : (((xsN a n - 10) / 1000000000000 : Nat) : Int) = ((xsN a n : Nat) - 10 : Int) / 1000000000000 := by omega
        have d2 : (((xsN a n + 10) / 1000000000000 + 1 : Nat) : Int) = ((xsN a n : Nat) + 10 : Int) / 1000000000000 + 1 := by omega
        rw [d1, d2]
        clear d1 d2 hx p q r e0 e1 e2
        generalize xsN a n = x at *
        have dAl := dAl; have dSt := dSt; have xC := ext_cell; have xF := ext_frozen; have xS := ext_set; have xN := ext_drewN; have xD := ext_drew; have xL := ext_lt; have xE := ext_ne; have xG := ext_nr; have xX := ext_ext; have xL1 := ext_lt1; have xL2 := ext_lt2; have xL3 := ext_lt3; have xM0 := ext_le0; have xM1 := ext_le1; have xM2 := ext_le2
        go_enter Try.func86, Try.ntmps86
        go_wp2_with fail
        refine (A1 _).mono ?_
        rintro e w1 ⟨rfl, m, rfl⟩
        go_wp2
        refine bodyPost_ret (by simp [results, Try.results86, go_sem, ext_ext, ext_cell]; try rfl) rfl ?_
        exact ⟨rfl, by (repeat (first | with_reducible exact b0 _ | (with_reducible refine bext ?_ _ _) | (with_reducible refine below_drewN ?_ _) | (with_reducible refine Below.drew ?_) | (with_reducible refine bal ?_ _)))⟩

/-- The part of a quarter of a turn, from 0 to 2 n, that has the same cosine. -/
def foN (a : Int) (n : Nat) : Nat := min (a.natAbs % (4 * n)) (4 * n - a.natAbs % (4 * n))
def csL (a : Int) (n : Nat) : Int := if n < foN a n then -((acH (2 * n - foN a n) n : Nat) : Int) else (acL (foN a n) n : Nat)
def csH (a : Int) (n : Nat) : Int := if n < foN a n then -((acL (2 * n - foN a n) n : Nat) : Int) else (acH (foN a n) n : Nat)

set_option maxHeartbeats 800000 in
theorem sine_cosine (a : Int) (n : Nat) (h1 : 1 ≤ n) (h2 : n ≤ 720) (a1 : -1000000 ≤ a) (a2 : a ≤ 1000000) (w : World) :
    Calls Try.prog 70 #[.int .i64 a, .int .i64 n] w fun e w' => e = .returned (.agg #[.int .i64 (csL a n), .int .i64 (csH a n)]) ∧ Below w.heap.size w w' := by
  have M1 := run_min2
  have M2 := run_max2
  have f1 : ma2 a (-a) = (a.natAbs : Nat) := by unfold ma2; omega
  have hr : a.natAbs % (4 * n) < 4 * n := Nat.mod_lt _ (by omega)
  have f2 : ((a.natAbs : Nat) : Int).tmod (4 * n) = (a.natAbs % (4 * n) : Nat) := by
    rw [Int.tmod_eq_emod_of_nonneg (by omega), Int.natCast_emod]; rfl
  have f2' : ((a.natAbs : Nat) : Int) % (4 * n) = (a.natAbs % (4 * n) : Nat) := by
    rw [Int.natCast_emod]; rfl
  have f3 : mi2 ((a.natAbs % (4 * n) : Nat) : Int) (4 * n - (a.natAbs % (4 * n) : Nat)) = (foN a n : Nat) := by unfold mi2 foN; omega
  have f4 : foN a n ≤ 2 * n := by unfold foN; omega
  have hn : a.natAbs ≤ 1000000 := by omega
  have r1 : csL a n = if n < foN a n then -((acH (2 * n - foN a n) n : Nat) : Int) else (acL (foN a n) n : Nat) := rfl
  have r2 : csH a n = if n < foN a n then -((acL (2 * n - foN a n) n : Nat) : Int) else (acH (foN a n) n : Nat) := rfl
  rw [r1, r2]
  clear r1 r2
  generalize foN a n = f at *
  generalize a.natAbs % (4 * n) = r at *
  generalize a.natAbs = t at *
  by_cases k : n < f
  · rw [if_pos k, if_pos k]
    have A1 := fun w => sine_acute (2 * n - f) n h1 h2 (by omega) w
    have e : ((2 * n - f : Nat) : Int) = 2 * n - f := by omega
    have b := ac_wid n (2 * n - f) h1 h2 (by omega)
    rw [e] at A1
    clear e
    generalize acL (2 * n - f) n = x at *
    generalize acH (2 * n - f) n = y at *
    have bx : x ≤ 1000000 ∧ y ≤ 1000000 := by omega
    clear b
    have dAl := dAl; have dSt := dSt; have xC := ext_cell; have xF := ext_frozen; have xS := ext_set; have xN := ext_drewN; have xD := ext_drew; have xL := ext_lt; have xE := ext_ne; have xG := ext_nr; have xX := ext_ext; have xL1 := ext_lt1; have xL2 := ext_lt2; have xL3 := ext_lt3; have xM0 := ext_le0; have xM1 := ext_le1; have xM2 := ext_le2
    go_enter Try.func70, Try.ntmps70
    go_wp2_with fail
    refine (A1 _).mono ?_
    rintro e w1 ⟨rfl, hb⟩
    obtain ⟨l1, d1, rfl⟩ := toExt hb
    clear hb
    go_wp2
    refine bodyPost_ret (by simp [results, Try.results70, go_sem, ext_cell, World.cell?_alloc_past, ltk2, ltk3, ltk4, ltk5, ltk6, ltk7, ltk8, ltk9, *]; try rfl) rfl ?_
    exact ⟨rfl, by (repeat (first | with_reducible exact b0 _ | (with_reducible refine bext ?_ _ _) | (with_reducible refine below_drewN ?_ _) | (with_reducible refine Below.drew ?_) | (with_reducible refine bal ?_ _)))⟩
  · rw [if_neg k, if_neg k]
    have A1 := fun w => sine_acute f n h1 h2 (by omega) w
    generalize acL f n = x at *
    generalize acH f n = y at *
    have dAl := dAl; have dSt := dSt; have xC := ext_cell; have xF := ext_frozen; have xS := ext_set; have xN := ext_drewN; have xD := ext_drew; have xL := ext_lt; have xE := ext_ne; have xG := ext_nr; have xX := ext_ext; have xL1 := ext_lt1; have xL2 := ext_lt2; have xL3 := ext_lt3; have xM0 := ext_le0; have xM1 := ext_le1; have xM2 := ext_le2
    go_enter Try.func70, Try.ntmps70
    go_wp2_with fail
    refine (A1 _).mono ?_
    rintro e w1 ⟨rfl, hb⟩
    obtain ⟨l1, d1, rfl⟩ := toExt hb
    clear hb
    go_wp2
    refine bodyPost_ret (by simp [results, Try.results70, go_sem, ext_cell, World.cell?_alloc_past, ltk2, ltk3, ltk4, ltk5, ltk6, ltk7, ltk8, ltk9, *]; try rfl) rfl ?_
    exact ⟨rfl, by (repeat (first | with_reducible exact b0 _ | (with_reducible refine bext ?_ _ _) | (with_reducible refine below_drewN ?_ _) | (with_reducible refine Below.drew ?_) | (with_reducible refine bal ?_ _)))⟩
/-- What Cos and Sin answer. -/
def nOk (n : Int) : Bool := decide (1 ≤ n ∧ n ≤ 720)
def coL (k n : Int) : Int := if nOk n = true then csL (4 * k.tmod n) n.toNat else 0
def coH (k n : Int) : Int := if nOk n = true then csH (4 * k.tmod n) n.toNat else 0
def coE (n : Int) : Int := if nOk n = true then 0 else 2
def siL (k n : Int) : Int := if nOk n = true then csL (4 * k.tmod n - n) n.toNat else 0
def siH (k n : Int) : Int := if nOk n = true then csH (4 * k.tmod n - n) n.toNat else 0
theorem nOk_out {n : Int} (h : nOk n = true) : 1 ≤ n ∧ n ≤ 720 := by simpa [nOk] using h
theorem tmod_bd (k n : Int) (h : 1 ≤ n) : -n < k.tmod n ∧ k.tmod n < n := by
  have h1 := Int.lt_tmod_of_pos k (show 0 < n by omega)
  have h2 := Int.tmod_lt_of_pos k (show 0 < n by omega)
  omega

set_option maxHeartbeats 800000 in
theorem sine_Cos (k n : Int) (a1 : -9223372036854775808 ≤ k) (a2 : k ≤ 9223372036854775807) (w : World) :
    Calls Try.prog 51 #[.int .i64 k, .int .i64 n] w fun e w' => e = .returned (.tuple #[.agg #[.int .i64 (coL k n), .int .i64 (coH k n)], .int .i64 (coE n)]) ∧ Below w.heap.size w w' := by
  by_cases hn : nOk n = true
  · obtain ⟨n1, n2⟩ := nOk_out hn
    have b := tmod_bd k n n1
    have A1 := fun w => sine_cosine (4 * k.tmod n) n.toNat (by omega) (by omega) (by omega) (by omega) w
    have r1 : coL k n = csL (4 * k.tmod n) n.toNat := by rw [coL, if_pos hn]
    have r2 : coH k n = csH (4 * k.tmod n) n.toNat := by rw [coH, if_pos hn]
    have r3 : coE n = 0 := by rw [coE, if_pos hn]
    rw [show ((n.toNat : Nat) : Int) = n by omega] at A1
    rw [r1, r2, r3]
    generalize csL (4 * k.tmod n) n.toNat = x at *
    generalize csH (4 * k.tmod n) n.toNat = y at *
    clear r1 r2 r3 hn
    have dAl := dAl; have dSt := dSt; have xC := ext_cell; have xF := ext_frozen; have xS := ext_set; have xN := ext_drewN; have xD := ext_drew; have xL := ext_lt; have xE := ext_ne; have xG := ext_nr; have xX := ext_ext; have xL1 := ext_lt1; have xL2 := ext_lt2; have xL3 := ext_lt3; have xM0 := ext_le0; have xM1 := ext_le1; have xM2 := ext_le2
    go_enter Try.func51, Try.ntmps51
    go_wp2_with fail
    refine (A1 _).mono ?_
    rintro e w1 ⟨rfl, hb⟩
    obtain ⟨l1, d1, rfl⟩ := toExt hb
    clear hb
    go_wp2
    refine bodyPost_ret (by simp [results, Try.results51, go_sem, ext_cell, World.cell?_alloc_past, ltk2, ltk3, ltk4, ltk5, ltk6, ltk7, ltk8, ltk9, *]; try rfl) rfl ?_
    exact ⟨rfl, by (repeat (first | with_reducible exact b0 _ | (with_reducible refine bext ?_ _ _) | (with_reducible refine below_drewN ?_ _) | (with_reducible refine Below.drew ?_) | (with_reducible refine bal ?_ _)))⟩
  · have hn' : n < 1 ∨ 720 < n := by
      have : ¬ (1 ≤ n ∧ n ≤ 720) := by simpa [nOk] using hn
      omega
    have r1 : coL k n = 0 := by rw [coL, if_neg hn]
    have r2 : coH k n = 0 := by rw [coH, if_neg hn]
    have r3 : coE n = 2 := by rw [coE, if_neg hn]
    rw [r1, r2, r3]
    clear r1 r2 r3 hn
    rcases hn' with h | h
    ·
      have dAl := dAl; have dSt := dSt; have xC := ext_cell; have xF := ext_frozen; have xS := ext_set; have xN := ext_drewN; have xD := ext_drew; have xL := ext_lt; have xE := ext_ne; have xG := ext_nr; have xX := ext_ext; have xL1 := ext_lt1; have xL2 := ext_lt2; have xL3 := ext_lt3; have xM0 := ext_le0; have xM1 := ext_le1; have xM2 := ext_le2
      go_enter Try.func51, Try.ntmps51
      go_wp2
      refine bodyPost_ret (by simp [results, Try.results51, go_sem, ext_cell, World.cell?_alloc_past, ltk2, ltk3, ltk4, ltk5, ltk6, ltk7, ltk8, ltk9, *]; try rfl) rfl ?_
      exact ⟨rfl, by (repeat (first | with_reducible exact b0 _ | (with_reducible refine bext ?_ _ _) | (with_reducible refine below_drewN ?_ _) | (with_reducible refine Below.drew ?_) | (with_reducible refine bal ?_ _)))⟩
    · have h' : (n < 1) = False := by simp; omega
      have dAl := dAl; have dSt := dSt; have xC := ext_cell; have xF := ext_frozen; have xS := ext_set; have xN := ext_drewN; have xD := ext_drew; have xL := ext_lt; have xE := ext_ne; have xG := ext_nr; have xX := ext_ext; have xL1 := ext_lt1; have xL2 := ext_lt2; have xL3 := ext_lt3; have xM0 := ext_le0; have xM1 := ext_le1; have xM2 := ext_le2
      go_enter Try.func51, Try.ntmps51
      go_wp2
      refine bodyPost_ret (by simp [results, Try.results51, go_sem, ext_cell, World.cell?_alloc_past, ltk2, ltk3, ltk4, ltk5, ltk6, ltk7, ltk8, ltk9, *]; try rfl) rfl ?_
      exact ⟨rfl, by (repeat (first | with_reducible exact b0 _ | (with_reducible refine bext ?_ _ _) | (with_reducible refine below_drewN ?_ _) | (with_reducible refine Below.drew ?_) | (with_reducible refine bal ?_ _)))⟩

set_option maxHeartbeats 800000 in
theorem sine_Sin (k n : Int) (a1 : -9223372036854775808 ≤ k) (a2 : k ≤ 9223372036854775807) (w : World) :
    Calls Try.prog 52 #[.int .i64 k, .int .i64 n] w fun e w' => e = .returned (.tuple #[.agg #[.int .i64 (siL k n), .int .i64 (siH k n)], .int .i64 (coE n)]) ∧ Below w.heap.size w w' := by
  by_cases hn : nOk n = true
  · obtain ⟨n1, n2⟩ := nOk_out hn
    have b := tmod_bd k n n1
    have A1 := fun w => sine_cosine (4 * k.tmod n - n) n.toNat (by omega) (by omega) (by omega) (by omega) w
    have r1 : siL k n = csL (4 * k.tmod n - n) n.toNat := by rw [siL, if_pos hn]
    have r2 : siH k n = csH (4 * k.tmod n - n) n.toNat := by rw [siH, if_pos hn]
    have r3 : coE n = 0 := by rw [coE, if_pos hn]
    rw [show ((n.toNat : Nat) : Int) = n by omega] at A1
    rw [r1, r2, r3]
    generalize csL (4 * k.tmod n - n) n.toNat = x at *
    generalize csH (4 * k.tmod n - n) n.toNat = y at *
    clear r1 r2 r3 hn
    have dAl := dAl; have dSt := dSt; have xC := ext_cell; have xF := ext_frozen; have xS := ext_set; have xN := ext_drewN; have xD := ext_drew; have xL := ext_lt; have xE := ext_ne; have xG := ext_nr; have xX := ext_ext; have xL1 := ext_lt1; have xL2 := ext_lt2; have xL3 := ext_lt3; have xM0 := ext_le0; have xM1 := ext_le1; have xM2 := ext_le2
    go_enter Try.func52, Try.ntmps52
    go_wp2_with fail
    refine (A1 _).mono ?_
    rintro e w1 ⟨rfl, hb⟩
    obtain ⟨l1, d1, rfl⟩ := toExt hb
    clear hb
    go_wp2
    refine bodyPost_ret (by simp [results, Try.results52, go_sem, ext_cell, World.cell?_alloc_past, ltk2, ltk3, ltk4, ltk5, ltk6, ltk7, ltk8, ltk9, *]; try rfl) rfl ?_
    exact ⟨rfl, by (repeat (first | with_reducible exact b0 _ | (with_reducible refine bext ?_ _ _) | (with_reducible refine below_drewN ?_ _) | (with_reducible refine Below.drew ?_) | (with_reducible refine bal ?_ _)))⟩
  · have hn' : n < 1 ∨ 720 < n := by
      have : ¬ (1 ≤ n ∧ n ≤ 720) := by simpa [nOk] using hn
      omega
    have r1 : siL k n = 0 := by rw [siL, if_neg hn]
    have r2 : siH k n = 0 := by rw [siH, if_neg hn]
    have r3 : coE n = 2 := by rw [coE, if_neg hn]
    rw [r1, r2, r3]
    clear r1 r2 r3 hn
    rcases hn' with h | h
    ·
      have dAl := dAl; have dSt := dSt; have xC := ext_cell; have xF := ext_frozen; have xS := ext_set; have xN := ext_drewN; have xD := ext_drew; have xL := ext_lt; have xE := ext_ne; have xG := ext_nr; have xX := ext_ext; have xL1 := ext_lt1; have xL2 := ext_lt2; have xL3 := ext_lt3; have xM0 := ext_le0; have xM1 := ext_le1; have xM2 := ext_le2
      go_enter Try.func52, Try.ntmps52
      go_wp2
      refine bodyPost_ret (by simp [results, Try.results52, go_sem, ext_cell, World.cell?_alloc_past, ltk2, ltk3, ltk4, ltk5, ltk6, ltk7, ltk8, ltk9, *]; try rfl) rfl ?_
      exact ⟨rfl, by (repeat (first | with_reducible exact b0 _ | (with_reducible refine bext ?_ _ _) | (with_reducible refine below_drewN ?_ _) | (with_reducible refine Below.drew ?_) | (with_reducible refine bal ?_ _)))⟩
    · have h' : (n < 1) = False := by simp; omega
      have dAl := dAl; have dSt := dSt; have xC := ext_cell; have xF := ext_frozen; have xS := ext_set; have xN := ext_drewN; have xD := ext_drew; have xL := ext_lt; have xE := ext_ne; have xG := ext_nr; have xX := ext_ext; have xL1 := ext_lt1; have xL2 := ext_lt2; have xL3 := ext_lt3; have xM0 := ext_le0; have xM1 := ext_le1; have xM2 := ext_le2
      go_enter Try.func52, Try.ntmps52
      go_wp2
      refine bodyPost_ret (by simp [results, Try.results52, go_sem, ext_cell, World.cell?_alloc_past, ltk2, ltk3, ltk4, ltk5, ltk6, ltk7, ltk8, ltk9, *]; try rfl) rfl ?_
      exact ⟨rfl, by (repeat (first | with_reducible exact b0 _ | (with_reducible refine bext ?_ _ _) | (with_reducible refine below_drewN ?_ _) | (with_reducible refine Below.drew ?_) | (with_reducible refine bal ?_ _)))⟩

end Go.Proofs.Ytmjbeplcabomdaa
