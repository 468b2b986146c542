/-
  The nearest fraction of package frac, whole.
-/
import Derived.Test.YtbckjccbihnlnaaFns
namespace Go.Proofs.Ytbckjccbihnlnaa
open Go.RowKit
set_option linter.unusedVariables false
set_option linter.unusedSimpArgs false

/-- What Near answers. -/
def nearIs (N D n P Q E : Int) : Prop :=
  if okF N D = true then (if 1 ≤ n ∧ n ≤ 1000000000000000000 then E = 0 ∧ bestP N D n P Q else P = 0 ∧ Q = 0 ∧ E = 2) else P = 0 ∧ Q = 0 ∧ E = 8
theorem nearIs_unique {N D n P Q E P' Q' E' : Int} (h : nearIs N D n P Q E) (k : nearIs N D n P' Q' E') : P = P' ∧ Q = Q' ∧ E = E' := by
  unfold nearIs at h k
  split at h
  · rename_i h1
    rw [if_pos h1] at k
    split at h
    · rename_i h2
      rw [if_pos h2] at k
      have := best_unique _ _ _ _ _ _ _ h.2 k.2
      omega
    · rename_i h2
      rw [if_neg h2] at k
      omega
  · rename_i h1
    rw [if_neg h1] at k
    omega
theorem cmp_lt {a b : Int} (h : a < b) : cmpI a b = -1 := by unfold cmpI; rw [if_pos h]
theorem cmp_eq {a b : Int} (h : a = b) : cmpI a b = 0 := by unfold cmpI; rw [if_neg (by omega), if_pos h]
theorem cmp_gt {a b : Int} (h : b < a) : cmpI a b = 1 := by unfold cmpI; rw [if_neg (by omega), if_neg (by omega)]
/-- The choice of one of two neighbours is the nearest fraction. -/
theorem Nb.best {N D n e p1 q1 r1 p2 q2 r2 : Int} (h : Nb N D n e p1 q1 r1 p2 q2 r2) (hD : 1 ≤ D) : ∃ x y P Q, cmpI (r1 * q2) (r2 * q1) = x ∧ cmpI (p1 * q2) (p2 * q1) = y ∧
    ((x = -1 ∧ P = p1 ∧ Q = q1) ∨ (x = 1 ∧ P = p2 ∧ Q = q2) ∨ (x = 0 ∧ y = -1 ∧ P = p1 ∧ Q = q1) ∨ (x = 0 ∧ y = 1 ∧ P = p2 ∧ Q = q2)) ∧ bestP N D n P Q := by
  obtain ⟨sg, det, f1, f2, a1, a2, b1, b2, c, d1, d2, s, x1, x2⟩ := h
  rcases sg with rfl | rfl
  · have g1 : absI (N * q1 - p1 * D) = r1 := by unfold absI; omega
    have g2 : absI (N * q2 - p2 * D) = r2 := by unfold absI; omega
    have best := fun p q hc => best_of N D n p1 q1 p2 q2 p q hD a1 a2 b1 b2 det (by omega) (by omega) (by omega) hc
    rw [g1, g2] at best
    have hy := cmp_lt (show p1 * q2 < p2 * q1 by omega)
    rcases Int.lt_trichotomy (r1 * q2) (r2 * q1) with k | k | k
    · exact ⟨_, _, p1, q1, cmp_lt k, hy, Or.inl ⟨rfl, rfl, rfl⟩, best _ _ (Or.inl ⟨rfl, rfl, by omega⟩)⟩
    · exact ⟨_, _, p1, q1, cmp_eq k, hy, Or.inr (Or.inr (Or.inl ⟨rfl, rfl, rfl, rfl⟩)), best _ _ (Or.inl ⟨rfl, rfl, by omega⟩)⟩
    · exact ⟨_, _, p2, q2, cmp_gt k, hy, Or.inr (Or.inl ⟨rfl, rfl, rfl⟩), best _ _ (Or.inr ⟨rfl, rfl, by omega⟩)⟩
  · have g1 : absI (N * q1 - p1 * D) = r1 := by unfold absI; omega
    have g2 : absI (N * q2 - p2 * D) = r2 := by unfold absI; omega
    have best := fun p q hc => best_of N D n p2 q2 p1 q1 p q hD a2 a1 b2 b1 (by omega) (by omega) (by omega) (by omega) hc
    rw [g1, g2] at best
    have hy := cmp_gt (show p2 * q1 < p1 * q2 by omega)
    rcases Int.lt_trichotomy (r1 * q2) (r2 * q1) with k | k | k
    · exact ⟨_, _, p1, q1, cmp_lt k, hy, Or.inl ⟨rfl, rfl, rfl⟩, best _ _ (Or.inr ⟨rfl, rfl, by omega⟩)⟩
    · exact ⟨_, _, p2, q2, cmp_eq k, hy, Or.inr (Or.inr (Or.inr ⟨rfl, rfl, rfl, rfl⟩)), best _ _ (Or.inl ⟨rfl, rfl, by omega⟩)⟩
    · exact ⟨_, _, p2, q2, cmp_gt k, hy, Or.inr (Or.inl ⟨rfl, rfl, rfl⟩), best _ _ (Or.inl ⟨rfl, rfl, by omega⟩)⟩

set_option maxRecDepth 100000 in
set_option maxHeartbeats 1600000 in
theorem frac_Near (N D n : Int) (a1 : -9223372036854775808 ≤ N) (a2 : N ≤ 9223372036854775807) (a3 : -9223372036854775808 ≤ D) (a4 : D ≤ 9223372036854775807) (a5 : -9223372036854775808 ≤ n) (a6 : n ≤ 9223372036854775807) (w : World) :
    Calls Try.prog 17 #[.agg #[.int .i64 N, .int .i64 D], .int .i64 n] w fun e w' =>
      ∃ P Q E : Int, nearIs N D n P Q E ∧ e = .returned (.tuple #[.agg #[.int .i64 P, .int .i64 Q], .int .i64 E]) ∧ Below w.heap.size w w' := by
  have A1 := fun w => frac_Check N D a1 a2 a3 a4 w
  by_cases ho : okF N D = true
  · have hc : chkI N D = 0 := by rw [chkI, if_pos ho]
    rw [hc] at A1
    obtain ⟨o1, o2, o3, o4, o5⟩ := okF_out ho
    by_cases hn : 1 ≤ n ∧ n ≤ 1000000000000000000
    · by_cases hd : D ≤ n
      · have R : Hid (nearIs N D n N D 0) := Lib.hid (by unfold nearIs; rw [if_pos ho, if_pos hn]; exact ⟨rfl, best_own N D n o1 hd o5⟩)
        clear ho hc o5
        have dAl := dAl; have dSt := dSt; have xC := ext_cell; have xF := ext_frozen; have xS := ext_set; have xN := ext_drewN; have xD := ext_drew; have xL := ext_lt; have xE := ext_ne; have xG := ext_nr; have xX := ext_ext; have xL1 := ext_lt1; have xL2 := ext_lt2; have xL3 := ext_lt3; have xM0 := ext_le0; have xM1 := ext_le1; have xM2 := ext_le2
        go_enter Try.func17, Try.ntmps17
        go_wp2_with fail
        refine (A1 _).mono ?_
        rintro e w1c ⟨rfl, hb1c⟩
        obtain ⟨l1c, d1c, rfl⟩ := toExt hb1c
        clear hb1c
        clear A1
        go_wp2
        refine bodyPost_ret (by simp [results, Try.results17, go_sem, ext_cell, World.cell?_alloc_past, ltk2, ltk3, ltk4, ltk5, ltk6, ltk7, ltk8, ltk9, *]; try rfl) rfl ?_
        exact ⟨_, _, _, R.out, rfl, by (repeat (first | with_reducible exact b0 _ | (with_reducible refine bext ?_ _ _) | (with_reducible refine below_drewN ?_ _) | (with_reducible refine Below.drew ?_) | (with_reducible refine bal ?_ _)))⟩
      · have A2 := fun w => frac_around N D n o3 o4 o1 o2 hn.1 (by omega) o5 w
        have R0 : Hid (∀ P Q, bestP N D n P Q → nearIs N D n P Q 0) := Lib.hid (by intro P Q hb; unfold nearIs; rw [if_pos ho, if_pos hn]; exact ⟨rfl, hb⟩)
        clear ho hc o5
        have dAl := dAl; have dSt := dSt; have xC := ext_cell; have xF := ext_frozen; have xS := ext_set; have xN := ext_drewN; have xD := ext_drew; have xL := ext_lt; have xE := ext_ne; have xG := ext_nr; have xX := ext_ext; have xL1 := ext_lt1; have xL2 := ext_lt2; have xL3 := ext_lt3; have xM0 := ext_le0; have xM1 := ext_le1; have xM2 := ext_le2
        go_enter Try.func17, Try.ntmps17
        go_wp2_with fail
        refine (A1 _).mono ?_
        rintro e w2c ⟨rfl, hb2c⟩
        obtain ⟨l2c, d2c, rfl⟩ := toExt hb2c
        clear hb2c
        clear A1
        go_wp2_with fail
        refine (A2 _).mono ?_
        rintro e w2 ⟨s, p1, q1, r1, p2, q2, r2, hNb, rfl, hb⟩
        obtain ⟨l2, d2, rfl⟩ := toExt hb
        obtain ⟨x, y, P, Q, hx, hy, hr, hbest⟩ := hNb.best o1
        have b1 := hNb.b1; have b2 := hNb.b2; have c1 := hNb.a1; have c2 := hNb.a2; have s := hNb.s; have e1 := hNb.d1; have e2 := hNb.d2; have x1 := hNb.x1; have x2 := hNb.x2
        have m1 := Int.mul_le_mul_of_nonneg_left c1 (show 0 ≤ r2 by omega)
        have m2 := Int.mul_le_mul_of_nonneg_left c2 (show 0 ≤ r1 by omega)
        have A3 := fun w => frac_nearer p1 q1 r1 p2 q2 r2 x y P Q x1.1 x1.2 c1 (by omega) e1 (by omega) x2.1 x2.2 c2 (by omega) e2 (by omega) hx hy hr w
        have R := Lib.hid (R0.out P Q hbest)
        clear hb A2 hNb R0 hx hy hr hbest s b1 b2 c1 c2 e1 e2 x1 x2 m1 m2
        go_wp2_with fail
        refine (A3 _).mono ?_
        rintro e w3 ⟨rfl, hb⟩
        obtain ⟨l3, d3, rfl⟩ := toExt hb
        clear hb A3
        go_wp2
        refine bodyPost_ret (by simp [results, Try.results17, go_sem, ext_cell, World.cell?_alloc_past, ltk2, ltk3, ltk4, ltk5, ltk6, ltk7, ltk8, ltk9, *]; try rfl) rfl ?_
        exact ⟨P, Q, 0, R.out, rfl, by (repeat (first | with_reducible exact b0 _ | (with_reducible refine bext ?_ _ _) | (with_reducible refine below_drewN ?_ _) | (with_reducible refine Below.drew ?_) | (with_reducible refine bal ?_ _)))⟩
    · have R : Hid (nearIs N D n 0 0 2) := Lib.hid (by unfold nearIs; rw [if_pos ho, if_neg hn]; exact ⟨rfl, rfl, rfl⟩)
      clear ho hc o5
      by_cases h1 : n < 1
      · skip
        have dAl := dAl; have dSt := dSt; have xC := ext_cell; have xF := ext_frozen; have xS := ext_set; have xN := ext_drewN; have xD := ext_drew; have xL := ext_lt; have xE := ext_ne; have xG := ext_nr; have xX := ext_ext; have xL1 := ext_lt1; have xL2 := ext_lt2; have xL3 := ext_lt3; have xM0 := ext_le0; have xM1 := ext_le1; have xM2 := ext_le2
        go_enter Try.func17, Try.ntmps17
        go_wp2_with fail
        refine (A1 _).mono ?_
        rintro e w3c ⟨rfl, hb3c⟩
        obtain ⟨l3c, d3c, rfl⟩ := toExt hb3c
        clear hb3c
        clear A1
        go_wp2
        refine bodyPost_ret (by simp [results, Try.results17, go_sem, ext_cell, World.cell?_alloc_past, ltk2, ltk3, ltk4, ltk5, ltk6, ltk7, ltk8, ltk9, *]; try rfl) rfl ?_
        exact ⟨_, _, _, R.out, rfl, by (repeat (first | with_reducible exact b0 _ | (with_reducible refine bext ?_ _ _) | (with_reducible refine below_drewN ?_ _) | (with_reducible refine Below.drew ?_) | (with_reducible refine bal ?_ _)))⟩
      · have h2 : 1000000000000000000 < n := by omega
        have dAl := dAl; have dSt := dSt; have xC := ext_cell; have xF := ext_frozen; have xS := ext_set; have xN := ext_drewN; have xD := ext_drew; have xL := ext_lt; have xE := ext_ne; have xG := ext_nr; have xX := ext_ext; have xL1 := ext_lt1; have xL2 := ext_lt2; have xL3 := ext_lt3; have xM0 := ext_le0; have xM1 := ext_le1; have xM2 := ext_le2
        go_enter Try.func17, Try.ntmps17
        go_wp2_with fail
        refine (A1 _).mono ?_
        rintro e w4c ⟨rfl, hb4c⟩
        obtain ⟨l4c, d4c, rfl⟩ := toExt hb4c
        clear hb4c
        clear A1
        go_wp2
        refine bodyPost_ret (by simp [results, Try.results17, go_sem, ext_cell, World.cell?_alloc_past, ltk2, ltk3, ltk4, ltk5, ltk6, ltk7, ltk8, ltk9, *]; try rfl) rfl ?_
        exact ⟨_, _, _, R.out, rfl, by (repeat (first | with_reducible exact b0 _ | (with_reducible refine bext ?_ _ _) | (with_reducible refine below_drewN ?_ _) | (with_reducible refine Below.drew ?_) | (with_reducible refine bal ?_ _)))⟩
  · have hc : chkI N D = 8 := by rw [chkI, if_neg ho]
    rw [hc] at A1
    have R : Hid (nearIs N D n 0 0 8) := Lib.hid (by unfold nearIs; rw [if_neg ho]; exact ⟨rfl, rfl, rfl⟩)
    clear ho hc
    have dAl := dAl; have dSt := dSt; have xC := ext_cell; have xF := ext_frozen; have xS := ext_set; have xN := ext_drewN; have xD := ext_drew; have xL := ext_lt; have xE := ext_ne; have xG := ext_nr; have xX := ext_ext; have xL1 := ext_lt1; have xL2 := ext_lt2; have xL3 := ext_lt3; have xM0 := ext_le0; have xM1 := ext_le1; have xM2 := ext_le2
    go_enter Try.func17, Try.ntmps17
    go_wp2_with fail
    refine (A1 _).mono ?_
    rintro e w5c ⟨rfl, hb5c⟩
    obtain ⟨l5c, d5c, rfl⟩ := toExt hb5c
    clear hb5c
    clear A1
    go_wp2
    refine bodyPost_ret (by simp [results, Try.results17, go_sem, ext_cell, World.cell?_alloc_past, ltk2, ltk3, ltk4, ltk5, ltk6, ltk7, ltk8, ltk9, *]; try rfl) rfl ?_
    exact ⟨_, _, _, R.out, rfl, by (repeat (first | with_reducible exact b0 _ | (with_reducible refine bext ?_ _ _) | (with_reducible refine below_drewN ?_ _) | (with_reducible refine Below.drew ?_) | (with_reducible refine bal ?_ _)))⟩
end Go.Proofs.Ytbckjccbihnlnaa
