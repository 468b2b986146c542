/-
  What the laws' own small functions do: fractions, and the nearest ones of 43/30.
-/
import Derived.Test.YtbckjccbihnlnaaFnt
import Derived.Test.YtbckjccbihnlnaaFez
import Derived.Test.YtbckjccbihnlnaaFal
import Derived.Test.YtbckjccbihnlnaaFxp
namespace Go.Proofs.Ytbckjccbihnlnaa
open Go.RowKit
set_option linter.unusedVariables false
set_option linter.unusedSimpArgs false

theorem near_of {N D n p q p0 q0 p1 q1 : Int} (h : okF N D = true) (hn : 1 ≤ n ∧ n ≤ 1000000000000000000) (hq0 : 1 ≤ q0) (hq1 : 1 ≤ q1) (i0 : q0 ≤ n) (i1 : q1 ≤ n) (det : p1 * q0 - p0 * q1 = 1) (nn : n < q0 + q1)
    (f0 : 0 ≤ N * q0 - p0 * D) (f1 : N * q1 - p1 * D ≤ 0)
    (hc : (p = p0 ∧ q = q0 ∧ absI (N * q0 - p0 * D) * q1 ≤ absI (N * q1 - p1 * D) * q0) ∨ (p = p1 ∧ q = q1 ∧ absI (N * q1 - p1 * D) * q0 < absI (N * q0 - p0 * D) * q1)) : nearIs N D n p q 0 := by
  unfold nearIs
  rw [if_pos h, if_pos hn]
  exact ⟨rfl, best_of N D n p0 q0 p1 q1 p q (okF_out h).1 hq0 hq1 i0 i1 det nn f0 f1 hc⟩
theorem ok4330 : okF 43 30 = true := by decide
theorem n1 : nearIs 43 30 1 1 1 0 := near_of (p0 := 1) (q0 := 1) (p1 := 2) (q1 := 1) ok4330 (by decide) (by decide) (by decide) (by decide) (by decide) (by decide) (by decide) (by decide) (by decide) (by decide)
theorem n2 : nearIs 43 30 2 3 2 0 := near_of (p0 := 1) (q0 := 1) (p1 := 3) (q1 := 2) ok4330 (by decide) (by decide) (by decide) (by decide) (by decide) (by decide) (by decide) (by decide) (by decide) (by decide)
theorem n7 : nearIs 43 30 7 10 7 0 := near_of (p0 := 10) (q0 := 7) (p1 := 3) (q1 := 2) ok4330 (by decide) (by decide) (by decide) (by decide) (by decide) (by decide) (by decide) (by decide) (by decide) (by decide)
theorem n16 : nearIs 43 30 16 23 16 0 := near_of (p0 := 10) (q0 := 7) (p1 := 23) (q1 := 16) ok4330 (by decide) (by decide) (by decide) (by decide) (by decide) (by decide) (by decide) (by decide) (by decide) (by decide)
theorem n29 : nearIs 43 30 29 33 23 0 := near_of (p0 := 10) (q0 := 7) (p1 := 33) (q1 := 23) ok4330 (by decide) (by decide) (by decide) (by decide) (by decide) (by decide) (by decide) (by decide) (by decide) (by decide)
theorem nhalf : nearIs 1 2 1 0 1 0 := near_of (p0 := 0) (q0 := 1) (p1 := 1) (q1 := 1) (by decide) (by decide) (by decide) (by decide) (by decide) (by decide) (by decide) (by decide) (by decide) (by decide) (by decide)
theorem ex4330 : exL 43 30 = [1, 2, 3, 4] := by
  rw [exL_cons _ _ (by decide), show (43 : Int) % 30 = 13 by decide, exL_cons _ _ (by decide), show (30 : Int) % 13 = 4 by decide, exL_cons _ _ (by decide), show (13 : Int) % 4 = 1 by decide, exL_cons _ _ (by decide), show (4 : Int) % 1 = 0 by decide, exL_nil]
  decide
theorem ex72 : exL (-7) 2 = [-4, 2] := by
  rw [exL_cons _ _ (by decide), show (-7 : Int) % 2 = 1 by decide, exL_cons _ _ (by decide), show (2 : Int) % 1 = 0 by decide, exL_nil]
  decide

set_option maxHeartbeats 400000 in
theorem law_of (n d : Int) (w : World) :
    Calls Try.prog 73 #[.int .i64 n, .int .i64 d] w fun e w' => e = .returned (.agg #[.int .i64 n, .int .i64 d]) ∧ Below w.heap.size w w' := by
  go_enter Try.func73, Try.ntmps73
  go_wp2
  go_returns
  exact ⟨rfl, by (repeat (first | with_reducible exact b0 _ | (with_reducible refine bext ?_ _ _) | (with_reducible refine below_drewN ?_ _) | (with_reducible refine Below.drew ?_) | (with_reducible refine bal ?_ _)))⟩

set_option maxRecDepth 100000 in
set_option maxHeartbeats 1600000 in
theorem law_near (n p q : Int) (h : nearIs 43 30 n p q 0) (a5 : -9223372036854775808 ≤ n) (a6 : n ≤ 9223372036854775807) (w : World) :
    Calls Try.prog 76 #[.int .i64 n, .int .i64 p, .int .i64 q] w fun e w' => e = .returned (.bool true) ∧ Below w.heap.size w w' := by
  have A1 := fun w => law_of 43 30 w
  have A2 := fun w => frac_Near 43 30 n (by decide) (by decide) (by decide) (by decide) a5 a6 w
  have A3 := fun w => law_of p q w
  have H := Lib.hid h
  clear h
  have dAl := dAl; have dSt := dSt; have xC := ext_cell; have xF := ext_frozen; have xS := ext_set; have xN := ext_drewN; have xD := ext_drew; have xL := ext_lt; have xE := ext_ne; have xG := ext_nr; have xX := ext_ext; have xL1 := ext_lt1; have xL2 := ext_lt2; have xL3 := ext_lt3; have xM0 := ext_le0; have xM1 := ext_le1; have xM2 := ext_le2
  go_enter Try.func76, Try.ntmps76
  go_wp2_with fail
  refine (A1 _).mono ?_
  rintro e w1 ⟨rfl, hb⟩
  obtain ⟨l1, d1, rfl⟩ := toExt hb
  clear hb
  go_wp2_with fail
  refine (A2 _).mono ?_
  rintro e w2 ⟨P, Q, E, hN, rfl, hb⟩
  obtain ⟨rfl, rfl, rfl⟩ := nearIs_unique H.out hN
  have HB : Below w.heap.size w w2 := bt (by (repeat (first | with_reducible exact b0 _ | (with_reducible refine bext ?_ _ _) | (with_reducible refine below_drewN ?_ _) | (with_reducible refine Below.drew ?_) | (with_reducible refine bal ?_ _)))) hb
  clear hb A1 A2 hN
  go_wp2_with fail
  go_region_held3 (fun w' => w'.cell? ⟨w2.heap.size, 0, none⟩ = some (.int .i64 p) ∧ w'.cell? ⟨w2.heap.size, 1, none⟩ = some (.int .i64 q)) (simp (maxDischargeDepth := 8) [go_sem, World.cell?_alloc_past, ltk2, ltk3, ltk4, ltk5, ltk6, ltk7, ltk8, ltk9, *])
    ((go_at_call 73; with_reducible refine (A3 _).mono ?_; rintro e w' ⟨rfl, hb⟩; obtain ⟨l, d, rfl⟩ := toExt hb; clear hb))
  all_goals (try go_wp2)
  all_goals go_ret
  all_goals exact ⟨rfl, by (repeat (first | with_reducible exact HB | (with_reducible refine bext ?_ _ _) | (with_reducible refine below_drewN ?_ _) | (with_reducible refine Below.drew ?_) | (with_reducible refine bal ?_ _) | (with_reducible refine bset ?_ (by first | omega | (simp <;> omega)) _)))⟩
end Go.Proofs.Ytbckjccbihnlnaa
