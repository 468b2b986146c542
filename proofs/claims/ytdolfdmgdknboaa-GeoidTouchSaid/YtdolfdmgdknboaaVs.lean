/-
  Package vec: sums of products.
-/
import Derived.Test.YtdolfdmgdknboaaKu
import Derived.Test.YtdolfdmgdknboaaMA
import Derived.Test.YtdolfdmgdknboaaFxp
namespace Go.Proofs.Ytdolfdmgdknboaa
open Go.RowKit
set_option linter.unusedVariables false
set_option linter.unusedSimpArgs false

set_option maxHeartbeats 400000 in
theorem vec_whole (n : Int) (w : World) : Calls Try.prog 67 #[.int .i64 n] w fun x w' => x = .returned (.agg #[.int .i64 n, .int .i64 1]) ∧ Below w.heap.size w w' := by
  have xR := xRul
  go_enter Try.func67, Try.ntmps67
  go_wp2
  refine bodyPost_ret (by simp [results, Try.results67, go_sem, ext_cell, kp, *]; try rfl) rfl ?_
  exact ⟨rfl, kb⟩
set_option maxHeartbeats 400000 in
theorem vec_minus (n d : Int) (h0 : -9223372036854775807 ≤ n) (h1 : n ≤ 9223372036854775807) (w : World) : Calls Try.prog 62 #[.agg #[.int .i64 n, .int .i64 d]] w fun x w' => x = .returned (.agg #[.int .i64 (-n), .int .i64 d]) ∧ Below w.heap.size w w' := by
  have xR := xRul
  go_enter Try.func62, Try.ntmps62
  go_wp2
  refine bodyPost_ret (by simp [results, Try.results62, go_sem, ext_cell, kp, *]; try rfl) rfl ?_
  exact ⟨rfl, kb⟩
theorem vec_after (k : Int) (h0 : 0 ≤ k) (h1 : k < 3) (w : World) : Calls Try.prog 61 #[.int .i64 k] w fun x w' => x = .returned (.tuple #[.int .i64 ((k + 1) % 3), .int .i64 ((k + 2) % 3)]) ∧ w' = w := by
  have e1 : (k + 1).tmod 3 = (k + 1) % 3 := Int.tmod_eq_emod_of_nonneg (by omega)
  have e2 : (k + 2).tmod 3 = (k + 2) % 3 := Int.tmod_eq_emod_of_nonneg (by omega)
  go_enter Try.func61, Try.ntmps61
  go_wp2
  go_ret2
  exact ⟨rfl, rfl⟩

set_option maxRecDepth 100000 in
set_option maxHeartbeats 6400000 in
theorem vec_sum2 (g cap : Nat) (pa0 pb0 pc0 pd0 pa1 pb1 pc1 pd1 x1 x2 x3 y1 y2 y3 u1 u2 u3 : Int)
    (M0 : ∀ w, Calls Try.prog 104 #[.agg #[.int .i64 pa0, .int .i64 pb0], .agg #[.int .i64 pc0, .int .i64 pd0]] w fun e w' => e = .returned (.tuple #[.agg #[.int .i64 x1, .int .i64 x2], .int .i64 x3]) ∧ Below w.heap.size w w')
    (M1 : ∀ w, Calls Try.prog 104 #[.agg #[.int .i64 pa1, .int .i64 pb1], .agg #[.int .i64 pc1, .int .i64 pd1]] w fun e w' => e = .returned (.tuple #[.agg #[.int .i64 y1, .int .i64 y2], .int .i64 y3]) ∧ Below w.heap.size w w')
    (S0 : x3 = 0 → ∀ w, Calls Try.prog 106 #[.agg #[.int .i64 0, .int .i64 1], .agg #[.int .i64 x1, .int .i64 x2]] w fun e w' => e = .returned (.tuple #[.agg #[.int .i64 x1, .int .i64 x2], .int .i64 0]) ∧ Below w.heap.size w w')
    (S1 : ∀ w, Calls Try.prog 106 #[.agg #[.int .i64 x1, .int .i64 x2], .agg #[.int .i64 y1, .int .i64 y2]] w fun e w' => e = .returned (.tuple #[.agg #[.int .i64 u1, .int .i64 u2], .int .i64 u3]) ∧ Below w.heap.size w w')
    (w : World) (hg : g < w.heap.size) (h0_0 : w.cell? ⟨g, 0, none⟩ = some (.int .i64 pa0)) (h0_1 : w.cell? ⟨g, 1, none⟩ = some (.int .i64 pb0)) (h0_2 : w.cell? ⟨g, 2, none⟩ = some (.int .i64 pc0)) (h0_3 : w.cell? ⟨g, 3, none⟩ = some (.int .i64 pd0)) (h1_0 : w.cell? ⟨g, 4, none⟩ = some (.int .i64 pa1)) (h1_1 : w.cell? ⟨g, 5, none⟩ = some (.int .i64 pb1)) (h1_2 : w.cell? ⟨g, 6, none⟩ = some (.int .i64 pc1)) (h1_3 : w.cell? ⟨g, 7, none⟩ = some (.int .i64 pd1)) :
    Calls Try.prog 116 #[.slice (some ⟨g, 0, none⟩) 2 cap] w fun e w' => e = .returned (.tuple #[.agg #[.int .i64 (vz (fsI x3 y3 u3) u1), .int .i64 (vz (fsI x3 y3 u3) u2)], .int .i64 (fsI x3 y3 u3)]) ∧ Below w.heap.size w w' := by
  by_cases q0 : x3 = 0
  · subst q0
    replace S0 := S0 rfl
    by_cases q2 : y3 = 0
    · subst q2
      by_cases q3 : u3 = 0
      · subst q3
        rw [show (fsI 0 0 0) = 0 from rfl, vz0, vz0]
        have AW := fun w => vec_whole 0 w
        have xR := xRul
        go_enter Try.func116, Try.ntmps116
        go_wp2_with fail
        with_reducible refine (AW _).mono ?_
        rintro e w1 ⟨rfl, hb⟩
        have HB1 : Below w.heap.size w w1 := by
          refine Below.trans ?_ (hb.mono ?_)
          · exact kb
          · first | omega | (simp <;> omega)
        have zs1 : w.heap.size + 1 < w1.heap.size + 1 := by have := hb.size; (try simp at this); omega
        have kc0 : w1.cell? ⟨w.heap.size, 0, none⟩ = some (.int .i64 0) := bce hb
        have kc1 : w1.cell? ⟨w.heap.size, 1, none⟩ = some (.int .i64 0) := bce hb
        have kcf0 : w1.frozen? ⟨w.heap.size, 0, none⟩ = false := bfz hb
        have kcf1 : w1.frozen? ⟨w.heap.size, 1, none⟩ = false := bfz hb
        replace h0_0 : w1.cell? ⟨g, 0, none⟩ = some (.int .i64 pa0) := bce hb
        replace h0_1 : w1.cell? ⟨g, 1, none⟩ = some (.int .i64 pb0) := bce hb
        replace h0_2 : w1.cell? ⟨g, 2, none⟩ = some (.int .i64 pc0) := bce hb
        replace h0_3 : w1.cell? ⟨g, 3, none⟩ = some (.int .i64 pd0) := bce hb
        replace h1_0 : w1.cell? ⟨g, 4, none⟩ = some (.int .i64 pa1) := bce hb
        replace h1_1 : w1.cell? ⟨g, 5, none⟩ = some (.int .i64 pb1) := bce hb
        replace h1_2 : w1.cell? ⟨g, 6, none⟩ = some (.int .i64 pc1) := bce hb
        replace h1_3 : w1.cell? ⟨g, 7, none⟩ = some (.int .i64 pd1) := bce hb
        clear hb
        have zy0_1 : w.heap.size < w1.heap.size := by omega
        have zn_g_1 : g < w1.heap.size := by omega
        clear AW
        go_wp2_with fail
        refine wp_loop_rounds 3 ?_
        rw [rounds_succ]
        go_wp2_with fail
        with_reducible refine (M0 _).mono ?_
        rintro e w2 ⟨rfl, hb⟩
        have HB2 : Below w.heap.size w w2 := by
          refine Below.trans ?_ (hb.mono ?_)
          · exact kb
          · first | omega | (simp <;> omega)
        have zs2 : w1.heap.size + 1 < w2.heap.size + 1 := by have := hb.size; (try simp at this); omega
        replace kc0 : w2.cell? ⟨w.heap.size, 0, none⟩ = some (.int .i64 0) := bce hb
        replace kc1 : w2.cell? ⟨w.heap.size, 1, none⟩ = some (.int .i64 0) := bce hb
        replace kcf0 : w2.frozen? ⟨w.heap.size, 0, none⟩ = false := bfz hb
        replace kcf1 : w2.frozen? ⟨w.heap.size, 1, none⟩ = false := bfz hb
        replace h0_0 : w2.cell? ⟨g, 0, none⟩ = some (.int .i64 pa0) := bce hb
        replace h0_1 : w2.cell? ⟨g, 1, none⟩ = some (.int .i64 pb0) := bce hb
        replace h0_2 : w2.cell? ⟨g, 2, none⟩ = some (.int .i64 pc0) := bce hb
        replace h0_3 : w2.cell? ⟨g, 3, none⟩ = some (.int .i64 pd0) := bce hb
        replace h1_0 : w2.cell? ⟨g, 4, none⟩ = some (.int .i64 pa1) := bce hb
        replace h1_1 : w2.cell? ⟨g, 5, none⟩ = some (.int .i64 pb1) := bce hb
        replace h1_2 : w2.cell? ⟨g, 6, none⟩ = some (.int .i64 pc1) := bce hb
        replace h1_3 : w2.cell? ⟨g, 7, none⟩ = some (.int .i64 pd1) := bce hb
        have r1_0 : w2.cell? ⟨w1.heap.size, 0, none⟩ = some (.int .i64 0) := bce hb
        have r1_1 : w2.cell? ⟨w1.heap.size, 1, none⟩ = some (.int .i64 1) := bce hb
        have f1_0 : w2.frozen? ⟨w1.heap.size, 0, none⟩ = false := bfz hb
        have f1_1 : w2.frozen? ⟨w1.heap.size, 1, none⟩ = false := bfz hb
        clear hb HB1
        have zy0_2 : w.heap.size < w2.heap.size := by omega
        have zn_g_2 : g < w2.heap.size := by omega
        have zz_w1_2 : w1.heap.size < w2.heap.size := by omega
        go_wp2_with fail
        with_reducible refine (S0 _).mono ?_
        rintro e w3 ⟨rfl, hb⟩
        have HB3 : Below w.heap.size w w3 := by
          refine Below.trans ?_ (hb.mono ?_)
          · exact kb
          · first | omega | (simp <;> omega)
        have zs3 : w2.heap.size + 1 < w3.heap.size + 1 := by have := hb.size; (try simp at this); omega
        replace kc0 : w3.cell? ⟨w.heap.size, 0, none⟩ = some (.int .i64 0) := bce hb
        replace kc1 : w3.cell? ⟨w.heap.size, 1, none⟩ = some (.int .i64 0) := bce hb
        replace kcf0 : w3.frozen? ⟨w.heap.size, 0, none⟩ = false := bfz hb
        replace kcf1 : w3.frozen? ⟨w.heap.size, 1, none⟩ = false := bfz hb
        replace h1_0 : w3.cell? ⟨g, 4, none⟩ = some (.int .i64 pa1) := bce hb
        replace h1_1 : w3.cell? ⟨g, 5, none⟩ = some (.int .i64 pb1) := bce hb
        replace h1_2 : w3.cell? ⟨g, 6, none⟩ = some (.int .i64 pc1) := bce hb
        replace h1_3 : w3.cell? ⟨g, 7, none⟩ = some (.int .i64 pd1) := bce hb
        replace r1_0 : w3.cell? ⟨w1.heap.size, 0, none⟩ = some (.int .i64 0) := bce hb
        replace r1_1 : w3.cell? ⟨w1.heap.size, 1, none⟩ = some (.int .i64 1) := bce hb
        replace f1_0 : w3.frozen? ⟨w1.heap.size, 0, none⟩ = false := bfz hb
        replace f1_1 : w3.frozen? ⟨w1.heap.size, 1, none⟩ = false := bfz hb
        clear hb HB2
        have zy0_3 : w.heap.size < w3.heap.size := by omega
        have zn_g_3 : g < w3.heap.size := by omega
        have zz_w1_3 : w1.heap.size < w3.heap.size := by omega
        have zz_w2_3 : w2.heap.size < w3.heap.size := by omega
        go_wp2_with fail
        rw [rounds_succ]
        go_wp2_with fail
        with_reducible refine (M1 _).mono ?_
        rintro e w4 ⟨rfl, hb⟩
        have HB4 : Below w.heap.size w w4 := by
          refine Below.trans ?_ (hb.mono ?_)
          · exact kb
          · first | omega | (simp <;> omega)
        have zs4 : w3.heap.size + 0 < w4.heap.size + 1 := by have := hb.size; (try simp at this); omega
        replace kc0 : w4.cell? ⟨w.heap.size, 0, none⟩ = some (.int .i64 0) := bce hb
        replace kc1 : w4.cell? ⟨w.heap.size, 1, none⟩ = some (.int .i64 0) := bce hb
        replace kcf0 : w4.frozen? ⟨w.heap.size, 0, none⟩ = false := bfz hb
        replace kcf1 : w4.frozen? ⟨w.heap.size, 1, none⟩ = false := bfz hb
        replace h1_0 : w4.cell? ⟨g, 4, none⟩ = some (.int .i64 pa1) := bce hb
        replace h1_1 : w4.cell? ⟨g, 5, none⟩ = some (.int .i64 pb1) := bce hb
        replace h1_2 : w4.cell? ⟨g, 6, none⟩ = some (.int .i64 pc1) := bce hb
        replace h1_3 : w4.cell? ⟨g, 7, none⟩ = some (.int .i64 pd1) := bce hb
        replace r1_0 : w4.cell? ⟨w1.heap.size, 0, none⟩ = some (.int .i64 x1) := bce hb
        replace r1_1 : w4.cell? ⟨w1.heap.size, 1, none⟩ = some (.int .i64 x2) := bce hb
        replace f1_0 : w4.frozen? ⟨w1.heap.size, 0, none⟩ = false := bfz hb
        replace f1_1 : w4.frozen? ⟨w1.heap.size, 1, none⟩ = false := bfz hb
        clear hb HB3
        have zy0_4 : w.heap.size < w4.heap.size := by omega
        have zn_g_4 : g < w4.heap.size := by omega
        have zz_w1_4 : w1.heap.size < w4.heap.size := by omega
        have zz_w2_4 : w2.heap.size < w4.heap.size := by omega
        go_wp2_with fail
        with_reducible refine (S1 _).mono ?_
        rintro e w5 ⟨rfl, hb⟩
        have HB5 : Below w.heap.size w w5 := by
          refine Below.trans ?_ (hb.mono ?_)
          · exact kb
          · first | omega | (simp <;> omega)
        have zs5 : w4.heap.size + 1 < w5.heap.size + 1 := by have := hb.size; (try simp at this); omega
        replace kc0 : w5.cell? ⟨w.heap.size, 0, none⟩ = some (.int .i64 0) := bce hb
        replace kc1 : w5.cell? ⟨w.heap.size, 1, none⟩ = some (.int .i64 0) := bce hb
        replace kcf0 : w5.frozen? ⟨w.heap.size, 0, none⟩ = false := bfz hb
        replace kcf1 : w5.frozen? ⟨w.heap.size, 1, none⟩ = false := bfz hb
        replace r1_0 : w5.cell? ⟨w1.heap.size, 0, none⟩ = some (.int .i64 x1) := bce hb
        replace r1_1 : w5.cell? ⟨w1.heap.size, 1, none⟩ = some (.int .i64 x2) := bce hb
        replace f1_0 : w5.frozen? ⟨w1.heap.size, 0, none⟩ = false := bfz hb
        replace f1_1 : w5.frozen? ⟨w1.heap.size, 1, none⟩ = false := bfz hb
        clear hb HB4
        have zy0_5 : w.heap.size < w5.heap.size := by omega
        have zn_g_5 : g < w5.heap.size := by omega
        have zz_w1_5 : w1.heap.size < w5.heap.size := by omega
        have zz_w2_5 : w2.heap.size < w5.heap.size := by omega
        have zz_w4_5 : w4.heap.size < w5.heap.size := by omega
        go_wp2_with fail
        rw [rounds_succ]
        go_wp2
        refine bodyPost_ret (by simp [results, Try.results116, go_sem, ext_cell, kp, *]; try rfl) rfl ?_
        exact ⟨rfl, kb⟩
      · rw [show (fsI 0 0 u3) = u3 by simp [fsI, q3], vzn q3, vzn q3]
        have qe : (u3 == 0) = false := by simp [q3]
        clear q3
        have AW := fun w => vec_whole 0 w
        have xR := xRul
        go_enter Try.func116, Try.ntmps116
        go_wp2_with fail
        with_reducible refine (AW _).mono ?_
        rintro e w1 ⟨rfl, hb⟩
        have HB1 : Below w.heap.size w w1 := by
          refine Below.trans ?_ (hb.mono ?_)
          · exact kb
          · first | omega | (simp <;> omega)
        have zs1 : w.heap.size + 1 < w1.heap.size + 1 := by have := hb.size; (try simp at this); omega
        have kc0 : w1.cell? ⟨w.heap.size, 0, none⟩ = some (.int .i64 0) := bce hb
        have kc1 : w1.cell? ⟨w.heap.size, 1, none⟩ = some (.int .i64 0) := bce hb
        have kcf0 : w1.frozen? ⟨w.heap.size, 0, none⟩ = false := bfz hb
        have kcf1 : w1.frozen? ⟨w.heap.size, 1, none⟩ = false := bfz hb
        replace h0_0 : w1.cell? ⟨g, 0, none⟩ = some (.int .i64 pa0) := bce hb
        replace h0_1 : w1.cell? ⟨g, 1, none⟩ = some (.int .i64 pb0) := bce hb
        replace h0_2 : w1.cell? ⟨g, 2, none⟩ = some (.int .i64 pc0) := bce hb
        replace h0_3 : w1.cell? ⟨g, 3, none⟩ = some (.int .i64 pd0) := bce hb
        replace h1_0 : w1.cell? ⟨g, 4, none⟩ = some (.int .i64 pa1) := bce hb
        replace h1_1 : w1.cell? ⟨g, 5, none⟩ = some (.int .i64 pb1) := bce hb
        replace h1_2 : w1.cell? ⟨g, 6, none⟩ = some (.int .i64 pc1) := bce hb
        replace h1_3 : w1.cell? ⟨g, 7, none⟩ = some (.int .i64 pd1) := bce hb
        clear hb
        have zy0_1 : w.heap.size < w1.heap.size := by omega
        have zn_g_1 : g < w1.heap.size := by omega
        clear AW
        go_wp2_with fail
        refine wp_loop_rounds 3 ?_
        rw [rounds_succ]
        go_wp2_with fail
        with_reducible refine (M0 _).mono ?_
        rintro e w2 ⟨rfl, hb⟩
        have HB2 : Below w.heap.size w w2 := by
          refine Below.trans ?_ (hb.mono ?_)
          · exact kb
          · first | omega | (simp <;> omega)
        have zs2 : w1.heap.size + 1 < w2.heap.size + 1 := by have := hb.size; (try simp at this); omega
        replace kc0 : w2.cell? ⟨w.heap.size, 0, none⟩ = some (.int .i64 0) := bce hb
        replace kc1 : w2.cell? ⟨w.heap.size, 1, none⟩ = some (.int .i64 0) := bce hb
        replace kcf0 : w2.frozen? ⟨w.heap.size, 0, none⟩ = false := bfz hb
        replace kcf1 : w2.frozen? ⟨w.heap.size, 1, none⟩ = false := bfz hb
        replace h0_0 : w2.cell? ⟨g, 0, none⟩ = some (.int .i64 pa0) := bce hb
        replace h0_1 : w2.cell? ⟨g, 1, none⟩ = some (.int .i64 pb0) := bce hb
        replace h0_2 : w2.cell? ⟨g, 2, none⟩ = some (.int .i64 pc0) := bce hb
        replace h0_3 : w2.cell? ⟨g, 3, none⟩ = some (.int .i64 pd0) := bce hb
        replace h1_0 : w2.cell? ⟨g, 4, none⟩ = some (.int .i64 pa1) := bce hb
        replace h1_1 : w2.cell? ⟨g, 5, none⟩ = some (.int .i64 pb1) := bce hb
        replace h1_2 : w2.cell? ⟨g, 6, none⟩ = some (.int .i64 pc1) := bce hb
        replace h1_3 : w2.cell? ⟨g, 7, none⟩ = some (.int .i64 pd1) := bce hb
        have r1_0 : w2.cell? ⟨w1.heap.size, 0, none⟩ = some (.int .i64 0) := bce hb
        have r1_1 : w2.cell? ⟨w1.heap.size, 1, none⟩ = some (.int .i64 1) := bce hb
        have f1_0 : w2.frozen? ⟨w1.heap.size, 0, none⟩ = false := bfz hb
        have f1_1 : w2.frozen? ⟨w1.heap.size, 1, none⟩ = false := bfz hb
        clear hb HB1
        have zy0_2 : w.heap.size < w2.heap.size := by omega
        have zn_g_2 : g < w2.heap.size := by omega
        have zz_w1_2 : w1.heap.size < w2.heap.size := by omega
        go_wp2_with fail
        with_reducible refine (S0 _).mono ?_
        rintro e w3 ⟨rfl, hb⟩
        have HB3 : Below w.heap.size w w3 := by
          refine Below.trans ?_ (hb.mono ?_)
          · exact kb
          · first | omega | (simp <;> omega)
        have zs3 : w2.heap.size + 1 < w3.heap.size + 1 := by have := hb.size; (try simp at this); omega
        replace kc0 : w3.cell? ⟨w.heap.size, 0, none⟩ = some (.int .i64 0) := bce hb
        replace kc1 : w3.cell? ⟨w.heap.size, 1, none⟩ = some (.int .i64 0) := bce hb
        replace kcf0 : w3.frozen? ⟨w.heap.size, 0, none⟩ = false := bfz hb
        replace kcf1 : w3.frozen? ⟨w.heap.size, 1, none⟩ = false := bfz hb
        replace h1_0 : w3.cell? ⟨g, 4, none⟩ = some (.int .i64 pa1) := bce hb
        replace h1_1 : w3.cell? ⟨g, 5, none⟩ = some (.int .i64 pb1) := bce hb
        replace h1_2 : w3.cell? ⟨g, 6, none⟩ = some (.int .i64 pc1) := bce hb
        replace h1_3 : w3.cell? ⟨g, 7, none⟩ = some (.int .i64 pd1) := bce hb
        replace r1_0 : w3.cell? ⟨w1.heap.size, 0, none⟩ = some (.int .i64 0) := bce hb
        replace r1_1 : w3.cell? ⟨w1.heap.size, 1, none⟩ = some (.int .i64 1) := bce hb
        replace f1_0 : w3.frozen? ⟨w1.heap.size, 0, none⟩ = false := bfz hb
        replace f1_1 : w3.frozen? ⟨w1.heap.size, 1, none⟩ = false := bfz hb
        clear hb HB2
        have zy0_3 : w.heap.size < w3.heap.size := by omega
        have zn_g_3 : g < w3.heap.size := by omega
        have zz_w1_3 : w1.heap.size < w3.heap.size := by omega
        have zz_w2_3 : w2.heap.size < w3.heap.size := by omega
        go_wp2_with fail
        rw [rounds_succ]
        go_wp2_with fail
        with_reducible refine (M1 _).mono ?_
        rintro e w4 ⟨rfl, hb⟩
        have HB4 : Below w.heap.size w w4 := by
          refine Below.trans ?_ (hb.mono ?_)
          · exact kb
          · first | omega | (simp <;> omega)
        have zs4 : w3.heap.size + 0 < w4.heap.size + 1 := by have := hb.size; (try simp at this); omega
        replace kc0 : w4.cell? ⟨w.heap.size, 0, none⟩ = some (.int .i64 0) := bce hb
        replace kc1 : w4.cell? ⟨w.heap.size, 1, none⟩ = some (.int .i64 0) := bce hb
        replace kcf0 : w4.frozen? ⟨w.heap.size, 0, none⟩ = false := bfz hb
        replace kcf1 : w4.frozen? ⟨w.heap.size, 1, none⟩ = false := bfz hb
        replace h1_0 : w4.cell? ⟨g, 4, none⟩ = some (.int .i64 pa1) := bce hb
        replace h1_1 : w4.cell? ⟨g, 5, none⟩ = some (.int .i64 pb1) := bce hb
        replace h1_2 : w4.cell? ⟨g, 6, none⟩ = some (.int .i64 pc1) := bce hb
        replace h1_3 : w4.cell? ⟨g, 7, none⟩ = some (.int .i64 pd1) := bce hb
        replace r1_0 : w4.cell? ⟨w1.heap.size, 0, none⟩ = some (.int .i64 x1) := bce hb
        replace r1_1 : w4.cell? ⟨w1.heap.size, 1, none⟩ = some (.int .i64 x2) := bce hb
        replace f1_0 : w4.frozen? ⟨w1.heap.size, 0, none⟩ = false := bfz hb
        replace f1_1 : w4.frozen? ⟨w1.heap.size, 1, none⟩ = false := bfz hb
        clear hb HB3
        have zy0_4 : w.heap.size < w4.heap.size := by omega
        have zn_g_4 : g < w4.heap.size := by omega
        have zz_w1_4 : w1.heap.size < w4.heap.size := by omega
        have zz_w2_4 : w2.heap.size < w4.heap.size := by omega
        go_wp2_with fail
        with_reducible refine (S1 _).mono ?_
        rintro e w5 ⟨rfl, hb⟩
        have HB5 : Below w.heap.size w w5 := by
          refine Below.trans ?_ (hb.mono ?_)
          · exact kb
          · first | omega | (simp <;> omega)
        have zs5 : w4.heap.size + 1 < w5.heap.size + 1 := by have := hb.size; (try simp at this); omega
        replace kc0 : w5.cell? ⟨w.heap.size, 0, none⟩ = some (.int .i64 0) := bce hb
        replace kc1 : w5.cell? ⟨w.heap.size, 1, none⟩ = some (.int .i64 0) := bce hb
        replace kcf0 : w5.frozen? ⟨w.heap.size, 0, none⟩ = false := bfz hb
        replace kcf1 : w5.frozen? ⟨w.heap.size, 1, none⟩ = false := bfz hb
        replace r1_0 : w5.cell? ⟨w1.heap.size, 0, none⟩ = some (.int .i64 x1) := bce hb
        replace r1_1 : w5.cell? ⟨w1.heap.size, 1, none⟩ = some (.int .i64 x2) := bce hb
        replace f1_0 : w5.frozen? ⟨w1.heap.size, 0, none⟩ = false := bfz hb
        replace f1_1 : w5.frozen? ⟨w1.heap.size, 1, none⟩ = false := bfz hb
        clear hb HB4
        have zy0_5 : w.heap.size < w5.heap.size := by omega
        have zn_g_5 : g < w5.heap.size := by omega
        have zz_w1_5 : w1.heap.size < w5.heap.size := by omega
        have zz_w2_5 : w2.heap.size < w5.heap.size := by omega
        have zz_w4_5 : w4.heap.size < w5.heap.size := by omega
        go_wp2
        refine bodyPost_ret (by simp [results, Try.results116, go_sem, ext_cell, kp, *]; try rfl) rfl ?_
        exact ⟨rfl, kb⟩
    · rw [show (fsI 0 y3 u3) = y3 by simp [fsI, q2], vzn q2, vzn q2]
      have qe : (y3 == 0) = false := by simp [q2]
      clear q2 S1
      have AW := fun w => vec_whole 0 w
      have xR := xRul
      go_enter Try.func116, Try.ntmps116
      go_wp2_with fail
      with_reducible refine (AW _).mono ?_
      rintro e w1 ⟨rfl, hb⟩
      have HB1 : Below w.heap.size w w1 := by
        refine Below.trans ?_ (hb.mono ?_)
        · exact kb
        · first | omega | (simp <;> omega)
      have zs1 : w.heap.size + 1 < w1.heap.size + 1 := by have := hb.size; (try simp at this); omega
      have kc0 : w1.cell? ⟨w.heap.size, 0, none⟩ = some (.int .i64 0) := bce hb
      have kc1 : w1.cell? ⟨w.heap.size, 1, none⟩ = some (.int .i64 0) := bce hb
      have kcf0 : w1.frozen? ⟨w.heap.size, 0, none⟩ = false := bfz hb
      have kcf1 : w1.frozen? ⟨w.heap.size, 1, none⟩ = false := bfz hb
      replace h0_0 : w1.cell? ⟨g, 0, none⟩ = some (.int .i64 pa0) := bce hb
      replace h0_1 : w1.cell? ⟨g, 1, none⟩ = some (.int .i64 pb0) := bce hb
      replace h0_2 : w1.cell? ⟨g, 2, none⟩ = some (.int .i64 pc0) := bce hb
      replace h0_3 : w1.cell? ⟨g, 3, none⟩ = some (.int .i64 pd0) := bce hb
      replace h1_0 : w1.cell? ⟨g, 4, none⟩ = some (.int .i64 pa1) := bce hb
      replace h1_1 : w1.cell? ⟨g, 5, none⟩ = some (.int .i64 pb1) := bce hb
      replace h1_2 : w1.cell? ⟨g, 6, none⟩ = some (.int .i64 pc1) := bce hb
      replace h1_3 : w1.cell? ⟨g, 7, none⟩ = some (.int .i64 pd1) := bce hb
      clear hb
      have zy0_1 : w.heap.size < w1.heap.size := by omega
      have zn_g_1 : g < w1.heap.size := by omega
      clear AW
      go_wp2_with fail
      refine wp_loop_rounds 3 ?_
      rw [rounds_succ]
      go_wp2_with fail
      with_reducible refine (M0 _).mono ?_
      rintro e w2 ⟨rfl, hb⟩
      have HB2 : Below w.heap.size w w2 := by
        refine Below.trans ?_ (hb.mono ?_)
        · exact kb
        · first | omega | (simp <;> omega)
      have zs2 : w1.heap.size + 1 < w2.heap.size + 1 := by have := hb.size; (try simp at this); omega
      replace kc0 : w2.cell? ⟨w.heap.size, 0, none⟩ = some (.int .i64 0) := bce hb
      replace kc1 : w2.cell? ⟨w.heap.size, 1, none⟩ = some (.int .i64 0) := bce hb
      replace kcf0 : w2.frozen? ⟨w.heap.size, 0, none⟩ = false := bfz hb
      replace kcf1 : w2.frozen? ⟨w.heap.size, 1, none⟩ = false := bfz hb
      replace h0_0 : w2.cell? ⟨g, 0, none⟩ = some (.int .i64 pa0) := bce hb
      replace h0_1 : w2.cell? ⟨g, 1, none⟩ = some (.int .i64 pb0) := bce hb
      replace h0_2 : w2.cell? ⟨g, 2, none⟩ = some (.int .i64 pc0) := bce hb
      replace h0_3 : w2.cell? ⟨g, 3, none⟩ = some (.int .i64 pd0) := bce hb
      replace h1_0 : w2.cell? ⟨g, 4, none⟩ = some (.int .i64 pa1) := bce hb
      replace h1_1 : w2.cell? ⟨g, 5, none⟩ = some (.int .i64 pb1) := bce hb
      replace h1_2 : w2.cell? ⟨g, 6, none⟩ = some (.int .i64 pc1) := bce hb
      replace h1_3 : w2.cell? ⟨g, 7, none⟩ = some (.int .i64 pd1) := bce hb
      have r1_0 : w2.cell? ⟨w1.heap.size, 0, none⟩ = some (.int .i64 0) := bce hb
      have r1_1 : w2.cell? ⟨w1.heap.size, 1, none⟩ = some (.int .i64 1) := bce hb
      have f1_0 : w2.frozen? ⟨w1.heap.size, 0, none⟩ = false := bfz hb
      have f1_1 : w2.frozen? ⟨w1.heap.size, 1, none⟩ = false := bfz hb
      clear hb HB1
      have zy0_2 : w.heap.size < w2.heap.size := by omega
      have zn_g_2 : g < w2.heap.size := by omega
      have zz_w1_2 : w1.heap.size < w2.heap.size := by omega
      go_wp2_with fail
      with_reducible refine (S0 _).mono ?_
      rintro e w3 ⟨rfl, hb⟩
      have HB3 : Below w.heap.size w w3 := by
        refine Below.trans ?_ (hb.mono ?_)
        · exact kb
        · first | omega | (simp <;> omega)
      have zs3 : w2.heap.size + 1 < w3.heap.size + 1 := by have := hb.size; (try simp at this); omega
      replace kc0 : w3.cell? ⟨w.heap.size, 0, none⟩ = some (.int .i64 0) := bce hb
      replace kc1 : w3.cell? ⟨w.heap.size, 1, none⟩ = some (.int .i64 0) := bce hb
      replace kcf0 : w3.frozen? ⟨w.heap.size, 0, none⟩ = false := bfz hb
      replace kcf1 : w3.frozen? ⟨w.heap.size, 1, none⟩ = false := bfz hb
      replace h1_0 : w3.cell? ⟨g, 4, none⟩ = some (.int .i64 pa1) := bce hb
      replace h1_1 : w3.cell? ⟨g, 5, none⟩ = some (.int .i64 pb1) := bce hb
      replace h1_2 : w3.cell? ⟨g, 6, none⟩ = some (.int .i64 pc1) := bce hb
      replace h1_3 : w3.cell? ⟨g, 7, none⟩ = some (.int .i64 pd1) := bce hb
      replace r1_0 : w3.cell? ⟨w1.heap.size, 0, none⟩ = some (.int .i64 0) := bce hb
      replace r1_1 : w3.cell? ⟨w1.heap.size, 1, none⟩ = some (.int .i64 1) := bce hb
      replace f1_0 : w3.frozen? ⟨w1.heap.size, 0, none⟩ = false := bfz hb
      replace f1_1 : w3.frozen? ⟨w1.heap.size, 1, none⟩ = false := bfz hb
      clear hb HB2
      have zy0_3 : w.heap.size < w3.heap.size := by omega
      have zn_g_3 : g < w3.heap.size := by omega
      have zz_w1_3 : w1.heap.size < w3.heap.size := by omega
      have zz_w2_3 : w2.heap.size < w3.heap.size := by omega
      go_wp2_with fail
      rw [rounds_succ]
      go_wp2_with fail
      with_reducible refine (M1 _).mono ?_
      rintro e w4 ⟨rfl, hb⟩
      have HB4 : Below w.heap.size w w4 := by
        refine Below.trans ?_ (hb.mono ?_)
        · exact kb
        · first | omega | (simp <;> omega)
      have zs4 : w3.heap.size + 0 < w4.heap.size + 1 := by have := hb.size; (try simp at this); omega
      replace kc0 : w4.cell? ⟨w.heap.size, 0, none⟩ = some (.int .i64 0) := bce hb
      replace kc1 : w4.cell? ⟨w.heap.size, 1, none⟩ = some (.int .i64 0) := bce hb
      replace kcf0 : w4.frozen? ⟨w.heap.size, 0, none⟩ = false := bfz hb
      replace kcf1 : w4.frozen? ⟨w.heap.size, 1, none⟩ = false := bfz hb
      replace h1_0 : w4.cell? ⟨g, 4, none⟩ = some (.int .i64 pa1) := bce hb
      replace h1_1 : w4.cell? ⟨g, 5, none⟩ = some (.int .i64 pb1) := bce hb
      replace h1_2 : w4.cell? ⟨g, 6, none⟩ = some (.int .i64 pc1) := bce hb
      replace h1_3 : w4.cell? ⟨g, 7, none⟩ = some (.int .i64 pd1) := bce hb
      replace r1_0 : w4.cell? ⟨w1.heap.size, 0, none⟩ = some (.int .i64 x1) := bce hb
      replace r1_1 : w4.cell? ⟨w1.heap.size, 1, none⟩ = some (.int .i64 x2) := bce hb
      replace f1_0 : w4.frozen? ⟨w1.heap.size, 0, none⟩ = false := bfz hb
      replace f1_1 : w4.frozen? ⟨w1.heap.size, 1, none⟩ = false := bfz hb
      clear hb HB3
      have zy0_4 : w.heap.size < w4.heap.size := by omega
      have zn_g_4 : g < w4.heap.size := by omega
      have zz_w1_4 : w1.heap.size < w4.heap.size := by omega
      have zz_w2_4 : w2.heap.size < w4.heap.size := by omega
      go_wp2
      refine bodyPost_ret (by simp [results, Try.results116, go_sem, ext_cell, kp, *]; try rfl) rfl ?_
      exact ⟨rfl, kb⟩
  · rw [show (fsI x3 y3 u3) = x3 by simp [fsI, q0], vzn q0, vzn q0]
    have qe : (x3 == 0) = false := by simp [q0]
    clear q0 S0 M1 S1
    have AW := fun w => vec_whole 0 w
    have xR := xRul
    go_enter Try.func116, Try.ntmps116
    go_wp2_with fail
    with_reducible refine (AW _).mono ?_
    rintro e w1 ⟨rfl, hb⟩
    have HB1 : Below w.heap.size w w1 := by
      refine Below.trans ?_ (hb.mono ?_)
      · exact kb
      · first | omega | (simp <;> omega)
    have zs1 : w.heap.size + 1 < w1.heap.size + 1 := by have := hb.size; (try simp at this); omega
    have kc0 : w1.cell? ⟨w.heap.size, 0, none⟩ = some (.int .i64 0) := bce hb
    have kc1 : w1.cell? ⟨w.heap.size, 1, none⟩ = some (.int .i64 0) := bce hb
    have kcf0 : w1.frozen? ⟨w.heap.size, 0, none⟩ = false := bfz hb
    have kcf1 : w1.frozen? ⟨w.heap.size, 1, none⟩ = false := bfz hb
    replace h0_0 : w1.cell? ⟨g, 0, none⟩ = some (.int .i64 pa0) := bce hb
    replace h0_1 : w1.cell? ⟨g, 1, none⟩ = some (.int .i64 pb0) := bce hb
    replace h0_2 : w1.cell? ⟨g, 2, none⟩ = some (.int .i64 pc0) := bce hb
    replace h0_3 : w1.cell? ⟨g, 3, none⟩ = some (.int .i64 pd0) := bce hb
    replace h1_0 : w1.cell? ⟨g, 4, none⟩ = some (.int .i64 pa1) := bce hb
    replace h1_1 : w1.cell? ⟨g, 5, none⟩ = some (.int .i64 pb1) := bce hb
    replace h1_2 : w1.cell? ⟨g, 6, none⟩ = some (.int .i64 pc1) := bce hb
    replace h1_3 : w1.cell? ⟨g, 7, none⟩ = some (.int .i64 pd1) := bce hb
    clear hb
    have zy0_1 : w.heap.size < w1.heap.size := by omega
    have zn_g_1 : g < w1.heap.size := by omega
    clear AW
    go_wp2_with fail
    refine wp_loop_rounds 3 ?_
    rw [rounds_succ]
    go_wp2_with fail
    with_reducible refine (M0 _).mono ?_
    rintro e w2 ⟨rfl, hb⟩
    have HB2 : Below w.heap.size w w2 := by
      refine Below.trans ?_ (hb.mono ?_)
      · exact kb
      · first | omega | (simp <;> omega)
    have zs2 : w1.heap.size + 1 < w2.heap.size + 1 := by have := hb.size; (try simp at this); omega
    replace kc0 : w2.cell? ⟨w.heap.size, 0, none⟩ = some (.int .i64 0) := bce hb
    replace kc1 : w2.cell? ⟨w.heap.size, 1, none⟩ = some (.int .i64 0) := bce hb
    replace kcf0 : w2.frozen? ⟨w.heap.size, 0, none⟩ = false := bfz hb
    replace kcf1 : w2.frozen? ⟨w.heap.size, 1, none⟩ = false := bfz hb
    replace h0_0 : w2.cell? ⟨g, 0, none⟩ = some (.int .i64 pa0) := bce hb
    replace h0_1 : w2.cell? ⟨g, 1, none⟩ = some (.int .i64 pb0) := bce hb
    replace h0_2 : w2.cell? ⟨g, 2, none⟩ = some (.int .i64 pc0) := bce hb
    replace h0_3 : w2.cell? ⟨g, 3, none⟩ = some (.int .i64 pd0) := bce hb
    replace h1_0 : w2.cell? ⟨g, 4, none⟩ = some (.int .i64 pa1) := bce hb
    replace h1_1 : w2.cell? ⟨g, 5, none⟩ = some (.int .i64 pb1) := bce hb
    replace h1_2 : w2.cell? ⟨g, 6, none⟩ = some (.int .i64 pc1) := bce hb
    replace h1_3 : w2.cell? ⟨g, 7, none⟩ = some (.int .i64 pd1) := bce hb
    have r1_0 : w2.cell? ⟨w1.heap.size, 0, none⟩ = some (.int .i64 0) := bce hb
    have r1_1 : w2.cell? ⟨w1.heap.size, 1, none⟩ = some (.int .i64 1) := bce hb
    have f1_0 : w2.frozen? ⟨w1.heap.size, 0, none⟩ = false := bfz hb
    have f1_1 : w2.frozen? ⟨w1.heap.size, 1, none⟩ = false := bfz hb
    clear hb HB1
    have zy0_2 : w.heap.size < w2.heap.size := by omega
    have zn_g_2 : g < w2.heap.size := by omega
    have zz_w1_2 : w1.heap.size < w2.heap.size := by omega
    go_wp2
    refine bodyPost_ret (by simp [results, Try.results116, go_sem, ext_cell, kp, *]; try rfl) rfl ?_
    exact ⟨rfl, kb⟩

set_option maxRecDepth 100000 in
set_option maxHeartbeats 6400000 in
theorem vec_sum3 (g cap : Nat) (pa0 pb0 pc0 pd0 pa1 pb1 pc1 pd1 pa2 pb2 pc2 pd2 x1 x2 x3 y1 y2 y3 z1 z2 z3 u1 u2 u3 v1 v2 v3 : Int)
    (M0 : ∀ w, Calls Try.prog 104 #[.agg #[.int .i64 pa0, .int .i64 pb0], .agg #[.int .i64 pc0, .int .i64 pd0]] w fun e w' => e = .returned (.tuple #[.agg #[.int .i64 x1, .int .i64 x2], .int .i64 x3]) ∧ Below w.heap.size w w')
    (M1 : ∀ w, Calls Try.prog 104 #[.agg #[.int .i64 pa1, .int .i64 pb1], .agg #[.int .i64 pc1, .int .i64 pd1]] w fun e w' => e = .returned (.tuple #[.agg #[.int .i64 y1, .int .i64 y2], .int .i64 y3]) ∧ Below w.heap.size w w')
    (M2 : ∀ w, Calls Try.prog 104 #[.agg #[.int .i64 pa2, .int .i64 pb2], .agg #[.int .i64 pc2, .int .i64 pd2]] w fun e w' => e = .returned (.tuple #[.agg #[.int .i64 z1, .int .i64 z2], .int .i64 z3]) ∧ Below w.heap.size w w')
    (S0 : x3 = 0 → ∀ w, Calls Try.prog 106 #[.agg #[.int .i64 0, .int .i64 1], .agg #[.int .i64 x1, .int .i64 x2]] w fun e w' => e = .returned (.tuple #[.agg #[.int .i64 x1, .int .i64 x2], .int .i64 0]) ∧ Below w.heap.size w w')
    (S1 : ∀ w, Calls Try.prog 106 #[.agg #[.int .i64 x1, .int .i64 x2], .agg #[.int .i64 y1, .int .i64 y2]] w fun e w' => e = .returned (.tuple #[.agg #[.int .i64 u1, .int .i64 u2], .int .i64 u3]) ∧ Below w.heap.size w w')
    (S2 : ∀ w, Calls Try.prog 106 #[.agg #[.int .i64 u1, .int .i64 u2], .agg #[.int .i64 z1, .int .i64 z2]] w fun e w' => e = .returned (.tuple #[.agg #[.int .i64 v1, .int .i64 v2], .int .i64 v3]) ∧ Below w.heap.size w w')
    (w : World) (hg : g < w.heap.size) (h0_0 : w.cell? ⟨g, 0, none⟩ = some (.int .i64 pa0)) (h0_1 : w.cell? ⟨g, 1, none⟩ = some (.int .i64 pb0)) (h0_2 : w.cell? ⟨g, 2, none⟩ = some (.int .i64 pc0)) (h0_3 : w.cell? ⟨g, 3, none⟩ = some (.int .i64 pd0)) (h1_0 : w.cell? ⟨g, 4, none⟩ = some (.int .i64 pa1)) (h1_1 : w.cell? ⟨g, 5, none⟩ = some (.int .i64 pb1)) (h1_2 : w.cell? ⟨g, 6, none⟩ = some (.int .i64 pc1)) (h1_3 : w.cell? ⟨g, 7, none⟩ = some (.int .i64 pd1)) (h2_0 : w.cell? ⟨g, 8, none⟩ = some (.int .i64 pa2)) (h2_1 : w.cell? ⟨g, 9, none⟩ = some (.int .i64 pb2)) (h2_2 : w.cell? ⟨g, 10, none⟩ = some (.int .i64 pc2)) (h2_3 : w.cell? ⟨g, 11, none⟩ = some (.int .i64 pd2)) :
    Calls Try.prog 116 #[.slice (some ⟨g, 0, none⟩) 3 cap] w fun e w' => e = .returned (.tuple #[.agg #[.int .i64 (vz (fsI x3 y3 (fsI u3 z3 v3)) v1), .int .i64 (vz (fsI x3 y3 (fsI u3 z3 v3)) v2)], .int .i64 (fsI x3 y3 (fsI u3 z3 v3))]) ∧ Below w.heap.size w w' := by
  by_cases q0 : x3 = 0
  · subst q0
    replace S0 := S0 rfl
    by_cases q2 : y3 = 0
    · subst q2
      by_cases q3 : u3 = 0
      · subst q3
        by_cases q4 : z3 = 0
        · subst q4
          by_cases q5 : v3 = 0
          · subst q5
            rw [show (fsI 0 0 (fsI 0 0 0)) = 0 from rfl, vz0, vz0]
            have AW := fun w => vec_whole 0 w
            have xR := xRul
            go_enter Try.func116, Try.ntmps116
            go_wp2_with fail
            with_reducible refine (AW _).mono ?_
            rintro e w1 ⟨rfl, hb⟩
            have HB1 : Below w.heap.size w w1 := by
              refine Below.trans ?_ (hb.mono ?_)
              · exact kb
              · first | omega | (simp <;> omega)
            have zs1 : w.heap.size + 1 < w1.heap.size + 1 := by have := hb.size; (try simp at this); omega
            have kc0 : w1.cell? ⟨w.heap.size, 0, none⟩ = some (.int .i64 0) := bce hb
            have kc1 : w1.cell? ⟨w.heap.size, 1, none⟩ = some (.int .i64 0) := bce hb
            have kcf0 : w1.frozen? ⟨w.heap.size, 0, none⟩ = false := bfz hb
            have kcf1 : w1.frozen? ⟨w.heap.size, 1, none⟩ = false := bfz hb
            replace h0_0 : w1.cell? ⟨g, 0, none⟩ = some (.int .i64 pa0) := bce hb
            replace h0_1 : w1.cell? ⟨g, 1, none⟩ = some (.int .i64 pb0) := bce hb
            replace h0_2 : w1.cell? ⟨g, 2, none⟩ = some (.int .i64 pc0) := bce hb
            replace h0_3 : w1.cell? ⟨g, 3, none⟩ = some (.int .i64 pd0) := bce hb
            replace h1_0 : w1.cell? ⟨g, 4, none⟩ = some (.int .i64 pa1) := bce hb
            replace h1_1 : w1.cell? ⟨g, 5, none⟩ = some (.int .i64 pb1) := bce hb
            replace h1_2 : w1.cell? ⟨g, 6, none⟩ = some (.int .i64 pc1) := bce hb
            replace h1_3 : w1.cell? ⟨g, 7, none⟩ = some (.int .i64 pd1) := bce hb
            replace h2_0 : w1.cell? ⟨g, 8, none⟩ = some (.int .i64 pa2) := bce hb
            replace h2_1 : w1.cell? ⟨g, 9, none⟩ = some (.int .i64 pb2) := bce hb
            replace h2_2 : w1.cell? ⟨g, 10, none⟩ = some (.int .i64 pc2) := bce hb
            replace h2_3 : w1.cell? ⟨g, 11, none⟩ = some (.int .i64 pd2) := bce hb
            clear hb
            have zy0_1 : w.heap.size < w1.heap.size := by omega
            have zn_g_1 : g < w1.heap.size := by omega
            clear AW
            go_wp2_with fail
            refine wp_loop_rounds 4 ?_
            rw [rounds_succ]
            go_wp2_with fail
            with_reducible refine (M0 _).mono ?_
            rintro e w2 ⟨rfl, hb⟩
            have HB2 : Below w.heap.size w w2 := by
              refine Below.trans ?_ (hb.mono ?_)
              · exact kb
              · first | omega | (simp <;> omega)
            have zs2 : w1.heap.size + 1 < w2.heap.size + 1 := by have := hb.size; (try simp at this); omega
            replace kc0 : w2.cell? ⟨w.heap.size, 0, none⟩ = some (.int .i64 0) := bce hb
            replace kc1 : w2.cell? ⟨w.heap.size, 1, none⟩ = some (.int .i64 0) := bce hb
            replace kcf0 : w2.frozen? ⟨w.heap.size, 0, none⟩ = false := bfz hb
            replace kcf1 : w2.frozen? ⟨w.heap.size, 1, none⟩ = false := bfz hb
            replace h0_0 : w2.cell? ⟨g, 0, none⟩ = some (.int .i64 pa0) := bce hb
            replace h0_1 : w2.cell? ⟨g, 1, none⟩ = some (.int .i64 pb0) := bce hb
            replace h0_2 : w2.cell? ⟨g, 2, none⟩ = some (.int .i64 pc0) := bce hb
            replace h0_3 : w2.cell? ⟨g, 3, none⟩ = some (.int .i64 pd0) := bce hb
            replace h1_0 : w2.cell? ⟨g, 4, none⟩ = some (.int .i64 pa1) := bce hb
            replace h1_1 : w2.cell? ⟨g, 5, none⟩ = some (.int .i64 pb1) := bce hb
            replace h1_2 : w2.cell? ⟨g, 6, none⟩ = some (.int .i64 pc1) := bce hb
            replace h1_3 : w2.cell? ⟨g, 7, none⟩ = some (.int .i64 pd1) := bce hb
            replace h2_0 : w2.cell? ⟨g, 8, none⟩ = some (.int .i64 pa2) := bce hb
            replace h2_1 : w2.cell? ⟨g, 9, none⟩ = some (.int .i64 pb2) := bce hb
            replace h2_2 : w2.cell? ⟨g, 10, none⟩ = some (.int .i64 pc2) := bce hb
            replace h2_3 : w2.cell? ⟨g, 11, none⟩ = some (.int .i64 pd2) := bce hb
            have r1_0 : w2.cell? ⟨w1.heap.size, 0, none⟩ = some (.int .i64 0) := bce hb
            have r1_1 : w2.cell? ⟨w1.heap.size, 1, none⟩ = some (.int .i64 1) := bce hb
            have f1_0 : w2.frozen? ⟨w1.heap.size, 0, none⟩ = false := bfz hb
            have f1_1 : w2.frozen? ⟨w1.heap.size, 1, none⟩ = false := bfz hb
            clear hb HB1
            have zy0_2 : w.heap.size < w2.heap.size := by omega
            have zn_g_2 : g < w2.heap.size := by omega
            have zz_w1_2 : w1.heap.size < w2.heap.size := by omega
            go_wp2_with fail
            with_reducible refine (S0 _).mono ?_
            rintro e w3 ⟨rfl, hb⟩
            have HB3 : Below w.heap.size w w3 := by
              refine Below.trans ?_ (hb.mono ?_)
              · exact kb
              · first | omega | (simp <;> omega)
            have zs3 : w2.heap.size + 1 < w3.heap.size + 1 := by have := hb.size; (try simp at this); omega
            replace kc0 : w3.cell? ⟨w.heap.size, 0, none⟩ = some (.int .i64 0) := bce hb
            replace kc1 : w3.cell? ⟨w.heap.size, 1, none⟩ = some (.int .i64 0) := bce hb
            replace kcf0 : w3.frozen? ⟨w.heap.size, 0, none⟩ = false := bfz hb
            replace kcf1 : w3.frozen? ⟨w.heap.size, 1, none⟩ = false := bfz hb
            replace h1_0 : w3.cell? ⟨g, 4, none⟩ = some (.int .i64 pa1) := bce hb
            replace h1_1 : w3.cell? ⟨g, 5, none⟩ = some (.int .i64 pb1) := bce hb
            replace h1_2 : w3.cell? ⟨g, 6, none⟩ = some (.int .i64 pc1) := bce hb
            replace h1_3 : w3.cell? ⟨g, 7, none⟩ = some (.int .i64 pd1) := bce hb
            replace h2_0 : w3.cell? ⟨g, 8, none⟩ = some (.int .i64 pa2) := bce hb
            replace h2_1 : w3.cell? ⟨g, 9, none⟩ = some (.int .i64 pb2) := bce hb
            replace h2_2 : w3.cell? ⟨g, 10, none⟩ = some (.int .i64 pc2) := bce hb
            replace h2_3 : w3.cell? ⟨g, 11, none⟩ = some (.int .i64 pd2) := bce hb
            replace r1_0 : w3.cell? ⟨w1.heap.size, 0, none⟩ = some (.int .i64 0) := bce hb
            replace r1_1 : w3.cell? ⟨w1.heap.size, 1, none⟩ = some (.int .i64 1) := bce hb
            replace f1_0 : w3.frozen? ⟨w1.heap.size, 0, none⟩ = false := bfz hb
            replace f1_1 : w3.frozen? ⟨w1.heap.size, 1, none⟩ = false := bfz hb
            clear hb HB2
            have zy0_3 : w.heap.size < w3.heap.size := by omega
            have zn_g_3 : g < w3.heap.size := by omega
            have zz_w1_3 : w1.heap.size < w3.heap.size := by omega
            have zz_w2_3 : w2.heap.size < w3.heap.size := by omega
            go_wp2_with fail
            rw [rounds_succ]
            go_wp2_with fail
            with_reducible refine (M1 _).mono ?_
            rintro e w4 ⟨rfl, hb⟩
            have HB4 : Below w.heap.size w w4 := by
              refine Below.trans ?_ (hb.mono ?_)
              · exact kb
              · first | omega | (simp <;> omega)
            have zs4 : w3.heap.size + 0 < w4.heap.size + 1 := by have := hb.size; (try simp at this); omega
            replace kc0 : w4.cell? ⟨w.heap.size, 0, none⟩ = some (.int .i64 0) := bce hb
            replace kc1 : w4.cell? ⟨w.heap.size, 1, none⟩ = some (.int .i64 0) := bce hb
            replace kcf0 : w4.frozen? ⟨w.heap.size, 0, none⟩ = false := bfz hb
            replace kcf1 : w4.frozen? ⟨w.heap.size, 1, none⟩ = false := bfz hb
            replace h1_0 : w4.cell? ⟨g, 4, none⟩ = some (.int .i64 pa1) := bce hb
            replace h1_1 : w4.cell? ⟨g, 5, none⟩ = some (.int .i64 pb1) := bce hb
            replace h1_2 : w4.cell? ⟨g, 6, none⟩ = some (.int .i64 pc1) := bce hb
            replace h1_3 : w4.cell? ⟨g, 7, none⟩ = some (.int .i64 pd1) := bce hb
            replace h2_0 : w4.cell? ⟨g, 8, none⟩ = some (.int .i64 pa2) := bce hb
            replace h2_1 : w4.cell? ⟨g, 9, none⟩ = some (.int .i64 pb2) := bce hb
            replace h2_2 : w4.cell? ⟨g, 10, none⟩ = some (.int .i64 pc2) := bce hb
            replace h2_3 : w4.cell? ⟨g, 11, none⟩ = some (.int .i64 pd2) := bce hb
            replace r1_0 : w4.cell? ⟨w1.heap.size, 0, none⟩ = some (.int .i64 x1) := bce hb
            replace r1_1 : w4.cell? ⟨w1.heap.size, 1, none⟩ = some (.int .i64 x2) := bce hb
            replace f1_0 : w4.frozen? ⟨w1.heap.size, 0, none⟩ = false := bfz hb
            replace f1_1 : w4.frozen? ⟨w1.heap.size, 1, none⟩ = false := bfz hb
            clear hb HB3
            have zy0_4 : w.heap.size < w4.heap.size := by omega
            have zn_g_4 : g < w4.heap.size := by omega
            have zz_w1_4 : w1.heap.size < w4.heap.size := by omega
            have zz_w2_4 : w2.heap.size < w4.heap.size := by omega
            go_wp2_with fail
            with_reducible refine (S1 _).mono ?_
            rintro e w5 ⟨rfl, hb⟩
            have HB5 : Below w.heap.size w w5 := by
              refine Below.trans ?_ (hb.mono ?_)
              · exact kb
              · first | omega | (simp <;> omega)
            have zs5 : w4.heap.size + 1 < w5.heap.size + 1 := by have := hb.size; (try simp at this); omega
            replace kc0 : w5.cell? ⟨w.heap.size, 0, none⟩ = some (.int .i64 0) := bce hb
            replace kc1 : w5.cell? ⟨w.heap.size, 1, none⟩ = some (.int .i64 0) := bce hb
            replace kcf0 : w5.frozen? ⟨w.heap.size, 0, none⟩ = false := bfz hb
            replace kcf1 : w5.frozen? ⟨w.heap.size, 1, none⟩ = false := bfz hb
            replace h2_0 : w5.cell? ⟨g, 8, none⟩ = some (.int .i64 pa2) := bce hb
            replace h2_1 : w5.cell? ⟨g, 9, none⟩ = some (.int .i64 pb2) := bce hb
            replace h2_2 : w5.cell? ⟨g, 10, none⟩ = some (.int .i64 pc2) := bce hb
            replace h2_3 : w5.cell? ⟨g, 11, none⟩ = some (.int .i64 pd2) := bce hb
            replace r1_0 : w5.cell? ⟨w1.heap.size, 0, none⟩ = some (.int .i64 x1) := bce hb
            replace r1_1 : w5.cell? ⟨w1.heap.size, 1, none⟩ = some (.int .i64 x2) := bce hb
            replace f1_0 : w5.frozen? ⟨w1.heap.size, 0, none⟩ = false := bfz hb
            replace f1_1 : w5.frozen? ⟨w1.heap.size, 1, none⟩ = false := bfz hb
            clear hb HB4
            have zy0_5 : w.heap.size < w5.heap.size := by omega
            have zn_g_5 : g < w5.heap.size := by omega
            have zz_w1_5 : w1.heap.size < w5.heap.size := by omega
            have zz_w2_5 : w2.heap.size < w5.heap.size := by omega
            have zz_w4_5 : w4.heap.size < w5.heap.size := by omega
            go_wp2_with fail
            rw [rounds_succ]
            go_wp2_with fail
            with_reducible refine (M2 _).mono ?_
            rintro e w6 ⟨rfl, hb⟩
            have HB6 : Below w.heap.size w w6 := by
              refine Below.trans ?_ (hb.mono ?_)
              · exact kb
              · first | omega | (simp <;> omega)
            have zs6 : w5.heap.size + 0 < w6.heap.size + 1 := by have := hb.size; (try simp at this); omega
            replace kc0 : w6.cell? ⟨w.heap.size, 0, none⟩ = some (.int .i64 0) := bce hb
            replace kc1 : w6.cell? ⟨w.heap.size, 1, none⟩ = some (.int .i64 0) := bce hb
            replace kcf0 : w6.frozen? ⟨w.heap.size, 0, none⟩ = false := bfz hb
            replace kcf1 : w6.frozen? ⟨w.heap.size, 1, none⟩ = false := bfz hb
            replace h2_0 : w6.cell? ⟨g, 8, none⟩ = some (.int .i64 pa2) := bce hb
            replace h2_1 : w6.cell? ⟨g, 9, none⟩ = some (.int .i64 pb2) := bce hb
            replace h2_2 : w6.cell? ⟨g, 10, none⟩ = some (.int .i64 pc2) := bce hb
            replace h2_3 : w6.cell? ⟨g, 11, none⟩ = some (.int .i64 pd2) := bce hb
            replace r1_0 : w6.cell? ⟨w1.heap.size, 0, none⟩ = some (.int .i64 u1) := bce hb
            replace r1_1 : w6.cell? ⟨w1.heap.size, 1, none⟩ = some (.int .i64 u2) := bce hb
            replace f1_0 : w6.frozen? ⟨w1.heap.size, 0, none⟩ = false := bfz hb
            replace f1_1 : w6.frozen? ⟨w1.heap.size, 1, none⟩ = false := bfz hb
            clear hb HB5
            have zy0_6 : w.heap.size < w6.heap.size := by omega
            have zn_g_6 : g < w6.heap.size := by omega
            have zz_w1_6 : w1.heap.size < w6.heap.size := by omega
            have zz_w2_6 : w2.heap.size < w6.heap.size := by omega
            have zz_w4_6 : w4.heap.size < w6.heap.size := by omega
            go_wp2_with fail
            with_reducible refine (S2 _).mono ?_
            rintro e w7 ⟨rfl, hb⟩
            have HB7 : Below w.heap.size w w7 := by
              refine Below.trans ?_ (hb.mono ?_)
              · exact kb
              · first | omega | (simp <;> omega)
            have zs7 : w6.heap.size + 1 < w7.heap.size + 1 := by have := hb.size; (try simp at this); omega
            replace kc0 : w7.cell? ⟨w.heap.size, 0, none⟩ = some (.int .i64 0) := bce hb
            replace kc1 : w7.cell? ⟨w.heap.size, 1, none⟩ = some (.int .i64 0) := bce hb
            replace kcf0 : w7.frozen? ⟨w.heap.size, 0, none⟩ = false := bfz hb
            replace kcf1 : w7.frozen? ⟨w.heap.size, 1, none⟩ = false := bfz hb
            replace r1_0 : w7.cell? ⟨w1.heap.size, 0, none⟩ = some (.int .i64 u1) := bce hb
            replace r1_1 : w7.cell? ⟨w1.heap.size, 1, none⟩ = some (.int .i64 u2) := bce hb
            replace f1_0 : w7.frozen? ⟨w1.heap.size, 0, none⟩ = false := bfz hb
            replace f1_1 : w7.frozen? ⟨w1.heap.size, 1, none⟩ = false := bfz hb
            clear hb HB6
            have zy0_7 : w.heap.size < w7.heap.size := by omega
            have zn_g_7 : g < w7.heap.size := by omega
            have zz_w1_7 : w1.heap.size < w7.heap.size := by omega
            have zz_w2_7 : w2.heap.size < w7.heap.size := by omega
            have zz_w4_7 : w4.heap.size < w7.heap.size := by omega
            have zz_w6_7 : w6.heap.size < w7.heap.size := by omega
            go_wp2_with fail
            rw [rounds_succ]
            go_wp2
            refine bodyPost_ret (by simp [results, Try.results116, go_sem, ext_cell, kp, *]; try rfl) rfl ?_
            exact ⟨rfl, kb⟩
          · rw [show (fsI 0 0 (fsI 0 0 v3)) = v3 by simp [fsI, q5], vzn q5, vzn q5]
            have qe : (v3 == 0) = false := by simp [q5]
            clear q5
            have AW := fun w => vec_whole 0 w
            have xR := xRul
            go_enter Try.func116, Try.ntmps116
            go_wp2_with fail
            with_reducible refine (AW _).mono ?_
            rintro e w1 ⟨rfl, hb⟩
            have HB1 : Below w.heap.size w w1 := by
              refine Below.trans ?_ (hb.mono ?_)
              · exact kb
              · first | omega | (simp <;> omega)
            have zs1 : w.heap.size + 1 < w1.heap.size + 1 := by have := hb.size; (try simp at this); omega
            have kc0 : w1.cell? ⟨w.heap.size, 0, none⟩ = some (.int .i64 0) := bce hb
            have kc1 : w1.cell? ⟨w.heap.size, 1, none⟩ = some (.int .i64 0) := bce hb
            have kcf0 : w1.frozen? ⟨w.heap.size, 0, none⟩ = false := bfz hb
            have kcf1 : w1.frozen? ⟨w.heap.size, 1, none⟩ = false := bfz hb
            replace h0_0 : w1.cell? ⟨g, 0, none⟩ = some (.int .i64 pa0) := bce hb
            replace h0_1 : w1.cell? ⟨g, 1, none⟩ = some (.int .i64 pb0) := bce hb
            replace h0_2 : w1.cell? ⟨g, 2, none⟩ = some (.int .i64 pc0) := bce hb
            replace h0_3 : w1.cell? ⟨g, 3, none⟩ = some (.int .i64 pd0) := bce hb
            replace h1_0 : w1.cell? ⟨g, 4, none⟩ = some (.int .i64 pa1) := bce hb
            replace h1_1 : w1.cell? ⟨g, 5, none⟩ = some (.int .i64 pb1) := bce hb
            replace h1_2 : w1.cell? ⟨g, 6, none⟩ = some (.int .i64 pc1) := bce hb
            replace h1_3 : w1.cell? ⟨g, 7, none⟩ = some (.int .i64 pd1) := bce hb
            replace h2_0 : w1.cell? ⟨g, 8, none⟩ = some (.int .i64 pa2) := bce hb
            replace h2_1 : w1.cell? ⟨g, 9, none⟩ = some (.int .i64 pb2) := bce hb
            replace h2_2 : w1.cell? ⟨g, 10, none⟩ = some (.int .i64 pc2) := bce hb
            replace h2_3 : w1.cell? ⟨g, 11, none⟩ = some (.int .i64 pd2) := bce hb
            clear hb
            have zy0_1 : w.heap.size < w1.heap.size := by omega
            have zn_g_1 : g < w1.heap.size := by omega
            clear AW
            go_wp2_with fail
            refine wp_loop_rounds 4 ?_
            rw [rounds_succ]
            go_wp2_with fail
            with_reducible refine (M0 _).mono ?_
            rintro e w2 ⟨rfl, hb⟩
            have HB2 : Below w.heap.size w w2 := by
              refine Below.trans ?_ (hb.mono ?_)
              · exact kb
              · first | omega | (simp <;> omega)
            have zs2 : w1.heap.size + 1 < w2.heap.size + 1 := by have := hb.size; (try simp at this); omega
            replace kc0 : w2.cell? ⟨w.heap.size, 0, none⟩ = some (.int .i64 0) := bce hb
            replace kc1 : w2.cell? ⟨w.heap.size, 1, none⟩ = some (.int .i64 0) := bce hb
            replace kcf0 : w2.frozen? ⟨w.heap.size, 0, none⟩ = false := bfz hb
            replace kcf1 : w2.frozen? ⟨w.heap.size, 1, none⟩ = false := bfz hb
            replace h0_0 : w2.cell? ⟨g, 0, none⟩ = some (.int .i64 pa0) := bce hb
            replace h0_1 : w2.cell? ⟨g, 1, none⟩ = some (.int .i64 pb0) := bce hb
            replace h0_2 : w2.cell? ⟨g, 2, none⟩ = some (.int .i64 pc0) := bce hb
            replace h0_3 : w2.cell? ⟨g, 3, none⟩ = some (.int .i64 pd0) := bce hb
            replace h1_0 : w2.cell? ⟨g, 4, none⟩ = some (.int .i64 pa1) := bce hb
            replace h1_1 : w2.cell? ⟨g, 5, none⟩ = some (.int .i64 pb1) := bce hb
            replace h1_2 : w2.cell? ⟨g, 6, none⟩ = some (.int .i64 pc1) := bce hb
            replace h1_3 : w2.cell? ⟨g, 7, none⟩ = some (.int .i64 pd1) := bce hb
            replace h2_0 : w2.cell? ⟨g, 8, none⟩ = some (.int .i64 pa2) := bce hb
            replace h2_1 : w2.cell? ⟨g, 9, none⟩ = some (.int .i64 pb2) := bce hb
            replace h2_2 : w2.cell? ⟨g, 10, none⟩ = some (.int .i64 pc2) := bce hb
            replace h2_3 : w2.cell? ⟨g, 11, none⟩ = some (.int .i64 pd2) := bce hb
            have r1_0 : w2.cell? ⟨w1.heap.size, 0, none⟩ = some (.int .i64 0) := bce hb
            have r1_1 : w2.cell? ⟨w1.heap.size, 1, none⟩ = some (.int .i64 1) := bce hb
            have f1_0 : w2.frozen? ⟨w1.heap.size, 0, none⟩ = false := bfz hb
            have f1_1 : w2.frozen? ⟨w1.heap.size, 1, none⟩ = false := bfz hb
            clear hb HB1
            have zy0_2 : w.heap.size < w2.heap.size := by omega
            have zn_g_2 : g < w2.heap.size := by omega
            have zz_w1_2 : w1.heap.size < w2.heap.size := by omega
            go_wp2_with fail
            with_reducible refine (S0 _).mono ?_
            rintro e w3 ⟨rfl, hb⟩
            have HB3 : Below w.heap.size w w3 := by
              refine Below.trans ?_ (hb.mono ?_)
              · exact kb
              · first | omega | (simp <;> omega)
            have zs3 : w2.heap.size + 1 < w3.heap.size + 1 := by have := hb.size; (try simp at this); omega
            replace kc0 : w3.cell? ⟨w.heap.size, 0, none⟩ = some (.int .i64 0) := bce hb
            replace kc1 : w3.cell? ⟨w.heap.size, 1, none⟩ = some (.int .i64 0) := bce hb
            replace kcf0 : w3.frozen? ⟨w.heap.size, 0, none⟩ = false := bfz hb
            replace kcf1 : w3.frozen? ⟨w.heap.size, 1, none⟩ = false := bfz hb
            replace h1_0 : w3.cell? ⟨g, 4, none⟩ = some (.int .i64 pa1) := bce hb
            replace h1_1 : w3.cell? ⟨g, 5, none⟩ = some (.int .i64 pb1) := bce hb
            replace h1_2 : w3.cell? ⟨g, 6, none⟩ = some (.int .i64 pc1) := bce hb
            replace h1_3 : w3.cell? ⟨g, 7, none⟩ = some (.int .i64 pd1) := bce hb
            replace h2_0 : w3.cell? ⟨g, 8, none⟩ = some (.int .i64 pa2) := bce hb
            replace h2_1 : w3.cell? ⟨g, 9, none⟩ = some (.int .i64 pb2) := bce hb
            replace h2_2 : w3.cell? ⟨g, 10, none⟩ = some (.int .i64 pc2) := bce hb
            replace h2_3 : w3.cell? ⟨g, 11, none⟩ = some (.int .i64 pd2) := bce hb
            replace r1_0 : w3.cell? ⟨w1.heap.size, 0, none⟩ = some (.int .i64 0) := bce hb
            replace r1_1 : w3.cell? ⟨w1.heap.size, 1, none⟩ = some (.int .i64 1) := bce hb
            replace f1_0 : w3.frozen? ⟨w1.heap.size, 0, none⟩ = false := bfz hb
            replace f1_1 : w3.frozen? ⟨w1.heap.size, 1, none⟩ = false := bfz hb
            clear hb HB2
            have zy0_3 : w.heap.size < w3.heap.size := by omega
            have zn_g_3 : g < w3.heap.size := by omega
            have zz_w1_3 : w1.heap.size < w3.heap.size := by omega
            have zz_w2_3 : w2.heap.size < w3.heap.size := by omega
            go_wp2_with fail
            rw [rounds_succ]
            go_wp2_with fail
            with_reducible refine (M1 _).mono ?_
            rintro e w4 ⟨rfl, hb⟩
            have HB4 : Below w.heap.size w w4 := by
              refine Below.trans ?_ (hb.mono ?_)
              · exact kb
              · first | omega | (simp <;> omega)
            have zs4 : w3.heap.size + 0 < w4.heap.size + 1 := by have := hb.size; (try simp at this); omega
            replace kc0 : w4.cell? ⟨w.heap.size, 0, none⟩ = some (.int .i64 0) := bce hb
            replace kc1 : w4.cell? ⟨w.heap.size, 1, none⟩ = some (.int .i64 0) := bce hb
            replace kcf0 : w4.frozen? ⟨w.heap.size, 0, none⟩ = false := bfz hb
            replace kcf1 : w4.frozen? ⟨w.heap.size, 1, none⟩ = false := bfz hb
            replace h1_0 : w4.cell? ⟨g, 4, none⟩ = some (.int .i64 pa1) := bce hb
            replace h1_1 : w4.cell? ⟨g, 5, none⟩ = some (.int .i64 pb1) := bce hb
            replace h1_2 : w4.cell? ⟨g, 6, none⟩ = some (.int .i64 pc1) := bce hb
            replace h1_3 : w4.cell? ⟨g, 7, none⟩ = some (.int .i64 pd1) := bce hb
            replace h2_0 : w4.cell? ⟨g, 8, none⟩ = some (.int .i64 pa2) := bce hb
            replace h2_1 : w4.cell? ⟨g, 9, none⟩ = some (.int .i64 pb2) := bce hb
            replace h2_2 : w4.cell? ⟨g, 10, none⟩ = some (.int .i64 pc2) := bce hb
            replace h2_3 : w4.cell? ⟨g, 11, none⟩ = some (.int .i64 pd2) := bce hb
            replace r1_0 : w4.cell? ⟨w1.heap.size, 0, none⟩ = some (.int .i64 x1) := bce hb
            replace r1_1 : w4.cell? ⟨w1.heap.size, 1, none⟩ = some (.int .i64 x2) := bce hb
            replace f1_0 : w4.frozen? ⟨w1.heap.size, 0, none⟩ = false := bfz hb
            replace f1_1 : w4.frozen? ⟨w1.heap.size, 1, none⟩ = false := bfz hb
            clear hb HB3
            have zy0_4 : w.heap.size < w4.heap.size := by omega
            have zn_g_4 : g < w4.heap.size := by omega
            have zz_w1_4 : w1.heap.size < w4.heap.size := by omega
            have zz_w2_4 : w2.heap.size < w4.heap.size := by omega
            go_wp2_with fail
            with_reducible refine (S1 _).mono ?_
            rintro e w5 ⟨rfl, hb⟩
            have HB5 : Below w.heap.size w w5 := by
              refine Below.trans ?_ (hb.mono ?_)
              · exact kb
              · first | omega | (simp <;> omega)
            have zs5 : w4.heap.size + 1 < w5.heap.size + 1 := by have := hb.size; (try simp at this); omega
            replace kc0 : w5.cell? ⟨w.heap.size, 0, none⟩ = some (.int .i64 0) := bce hb
            replace kc1 : w5.cell? ⟨w.heap.size, 1, none⟩ = some (.int .i64 0) := bce hb
            replace kcf0 : w5.frozen? ⟨w.heap.size, 0, none⟩ = false := bfz hb
            replace kcf1 : w5.frozen? ⟨w.heap.size, 1, none⟩ = false := bfz hb
            replace h2_0 : w5.cell? ⟨g, 8, none⟩ = some (.int .i64 pa2) := bce hb
            replace h2_1 : w5.cell? ⟨g, 9, none⟩ = some (.int .i64 pb2) := bce hb
            replace h2_2 : w5.cell? ⟨g, 10, none⟩ = some (.int .i64 pc2) := bce hb
            replace h2_3 : w5.cell? ⟨g, 11, none⟩ = some (.int .i64 pd2) := bce hb
            replace r1_0 : w5.cell? ⟨w1.heap.size, 0, none⟩ = some (.int .i64 x1) := bce hb
            replace r1_1 : w5.cell? ⟨w1.heap.size, 1, none⟩ = some (.int .i64 x2) := bce hb
            replace f1_0 : w5.frozen? ⟨w1.heap.size, 0, none⟩ = false := bfz hb
            replace f1_1 : w5.frozen? ⟨w1.heap.size, 1, none⟩ = false := bfz hb
            clear hb HB4
            have zy0_5 : w.heap.size < w5.heap.size := by omega
            have zn_g_5 : g < w5.heap.size := by omega
            have zz_w1_5 : w1.heap.size < w5.heap.size := by omega
            have zz_w2_5 : w2.heap.size < w5.heap.size := by omega
            have zz_w4_5 : w4.heap.size < w5.heap.size := by omega
            go_wp2_with fail
            rw [rounds_succ]
            go_wp2_with fail
            with_reducible refine (M2 _).mono ?_
            rintro e w6 ⟨rfl, hb⟩
            have HB6 : Below w.heap.size w w6 := by
              refine Below.trans ?_ (hb.mono ?_)
              · exact kb
              · first | omega | (simp <;> omega)
            have zs6 : w5.heap.size + 0 < w6.heap.size + 1 := by have := hb.size; (try simp at this); omega
            replace kc0 : w6.cell? ⟨w.heap.size, 0, none⟩ = some (.int .i64 0) := bce hb
            replace kc1 : w6.cell? ⟨w.heap.size, 1, none⟩ = some (.int .i64 0) := bce hb
            replace kcf0 : w6.frozen? ⟨w.heap.size, 0, none⟩ = false := bfz hb
            replace kcf1 : w6.frozen? ⟨w.heap.size, 1, none⟩ = false := bfz hb
            replace h2_0 : w6.cell? ⟨g, 8, none⟩ = some (.int .i64 pa2) := bce hb
            replace h2_1 : w6.cell? ⟨g, 9, none⟩ = some (.int .i64 pb2) := bce hb
            replace h2_2 : w6.cell? ⟨g, 10, none⟩ = some (.int .i64 pc2) := bce hb
            replace h2_3 : w6.cell? ⟨g, 11, none⟩ = some (.int .i64 pd2) := bce hb
            replace r1_0 : w6.cell? ⟨w1.heap.size, 0, none⟩ = some (.int .i64 u1) := bce hb
            replace r1_1 : w6.cell? ⟨w1.heap.size, 1, none⟩ = some (.int .i64 u2) := bce hb
            replace f1_0 : w6.frozen? ⟨w1.heap.size, 0, none⟩ = false := bfz hb
            replace f1_1 : w6.frozen? ⟨w1.heap.size, 1, none⟩ = false := bfz hb
            clear hb HB5
            have zy0_6 : w.heap.size < w6.heap.size := by omega
            have zn_g_6 : g < w6.heap.size := by omega
            have zz_w1_6 : w1.heap.size < w6.heap.size := by omega
            have zz_w2_6 : w2.heap.size < w6.heap.size := by omega
            have zz_w4_6 : w4.heap.size < w6.heap.size := by omega
            go_wp2_with fail
            with_reducible refine (S2 _).mono ?_
            rintro e w7 ⟨rfl, hb⟩
            have HB7 : Below w.heap.size w w7 := by
              refine Below.trans ?_ (hb.mono ?_)
              · exact kb
              · first | omega | (simp <;> omega)
            have zs7 : w6.heap.size + 1 < w7.heap.size + 1 := by have := hb.size; (try simp at this); omega
            replace kc0 : w7.cell? ⟨w.heap.size, 0, none⟩ = some (.int .i64 0) := bce hb
            replace kc1 : w7.cell? ⟨w.heap.size, 1, none⟩ = some (.int .i64 0) := bce hb
            replace kcf0 : w7.frozen? ⟨w.heap.size, 0, none⟩ = false := bfz hb
            replace kcf1 : w7.frozen? ⟨w.heap.size, 1, none⟩ = false := bfz hb
            replace r1_0 : w7.cell? ⟨w1.heap.size, 0, none⟩ = some (.int .i64 u1) := bce hb
            replace r1_1 : w7.cell? ⟨w1.heap.size, 1, none⟩ = some (.int .i64 u2) := bce hb
            replace f1_0 : w7.frozen? ⟨w1.heap.size, 0, none⟩ = false := bfz hb
            replace f1_1 : w7.frozen? ⟨w1.heap.size, 1, none⟩ = false := bfz hb
            clear hb HB6
            have zy0_7 : w.heap.size < w7.heap.size := by omega
            have zn_g_7 : g < w7.heap.size := by omega
            have zz_w1_7 : w1.heap.size < w7.heap.size := by omega
            have zz_w2_7 : w2.heap.size < w7.heap.size := by omega
            have zz_w4_7 : w4.heap.size < w7.heap.size := by omega
            have zz_w6_7 : w6.heap.size < w7.heap.size := by omega
            go_wp2
            refine bodyPost_ret (by simp [results, Try.results116, go_sem, ext_cell, kp, *]; try rfl) rfl ?_
            exact ⟨rfl, kb⟩
        · rw [show (fsI 0 0 (fsI 0 z3 v3)) = z3 by simp [fsI, q4], vzn q4, vzn q4]
          have qe : (z3 == 0) = false := by simp [q4]
          clear q4 S2
          have AW := fun w => vec_whole 0 w
          have xR := xRul
          go_enter Try.func116, Try.ntmps116
          go_wp2_with fail
          with_reducible refine (AW _).mono ?_
          rintro e w1 ⟨rfl, hb⟩
          have HB1 : Below w.heap.size w w1 := by
            refine Below.trans ?_ (hb.mono ?_)
            · exact kb
            · first | omega | (simp <;> omega)
          have zs1 : w.heap.size + 1 < w1.heap.size + 1 := by have := hb.size; (try simp at this); omega
          have kc0 : w1.cell? ⟨w.heap.size, 0, none⟩ = some (.int .i64 0) := bce hb
          have kc1 : w1.cell? ⟨w.heap.size, 1, none⟩ = some (.int .i64 0) := bce hb
          have kcf0 : w1.frozen? ⟨w.heap.size, 0, none⟩ = false := bfz hb
          have kcf1 : w1.frozen? ⟨w.heap.size, 1, none⟩ = false := bfz hb
          replace h0_0 : w1.cell? ⟨g, 0, none⟩ = some (.int .i64 pa0) := bce hb
          replace h0_1 : w1.cell? ⟨g, 1, none⟩ = some (.int .i64 pb0) := bce hb
          replace h0_2 : w1.cell? ⟨g, 2, none⟩ = some (.int .i64 pc0) := bce hb
          replace h0_3 : w1.cell? ⟨g, 3, none⟩ = some (.int .i64 pd0) := bce hb
          replace h1_0 : w1.cell? ⟨g, 4, none⟩ = some (.int .i64 pa1) := bce hb
          replace h1_1 : w1.cell? ⟨g, 5, none⟩ = some (.int .i64 pb1) := bce hb
          replace h1_2 : w1.cell? ⟨g, 6, none⟩ = some (.int .i64 pc1) := bce hb
          replace h1_3 : w1.cell? ⟨g, 7, none⟩ = some (.int .i64 pd1) := bce hb
          replace h2_0 : w1.cell? ⟨g, 8, none⟩ = some (.int .i64 pa2) := bce hb
          replace h2_1 : w1.cell? ⟨g, 9, none⟩ = some (.int .i64 pb2) := bce hb
          replace h2_2 : w1.cell? ⟨g, 10, none⟩ = some (.int .i64 pc2) := bce hb
          replace h2_3 : w1.cell? ⟨g, 11, none⟩ = some (.int .i64 pd2) := bce hb
          clear hb
          have zy0_1 : w.heap.size < w1.heap.size := by omega
          have zn_g_1 : g < w1.heap.size := by omega
          clear AW
          go_wp2_with fail
          refine wp_loop_rounds 4 ?_
          rw [rounds_succ]
          go_wp2_with fail
          with_reducible refine (M0 _).mono ?_
          rintro e w2 ⟨rfl, hb⟩
          have HB2 : Below w.heap.size w w2 := by
            refine Below.trans ?_ (hb.mono ?_)
            · exact kb
            · first | omega | (simp <;> omega)
          have zs2 : w1.heap.size + 1 < w2.heap.size + 1 := by have := hb.size; (try simp at this); omega
          replace kc0 : w2.cell? ⟨w.heap.size, 0, none⟩ = some (.int .i64 0) := bce hb
          replace kc1 : w2.cell? ⟨w.heap.size, 1, none⟩ = some (.int .i64 0) := bce hb
          replace kcf0 : w2.frozen? ⟨w.heap.size, 0, none⟩ = false := bfz hb
          replace kcf1 : w2.frozen? ⟨w.heap.size, 1, none⟩ = false := bfz hb
          replace h0_0 : w2.cell? ⟨g, 0, none⟩ = some (.int .i64 pa0) := bce hb
          replace h0_1 : w2.cell? ⟨g, 1, none⟩ = some (.int .i64 pb0) := bce hb
          replace h0_2 : w2.cell? ⟨g, 2, none⟩ = some (.int .i64 pc0) := bce hb
          replace h0_3 : w2.cell? ⟨g, 3, none⟩ = some (.int .i64 pd0) := bce hb
          replace h1_0 : w2.cell? ⟨g, 4, none⟩ = some (.int .i64 pa1) := bce hb
          replace h1_1 : w2.cell? ⟨g, 5, none⟩ = some (.int .i64 pb1) := bce hb
          replace h1_2 : w2.cell? ⟨g, 6, none⟩ = some (.int .i64 pc1) := bce hb
          replace h1_3 : w2.cell? ⟨g, 7, none⟩ = some (.int .i64 pd1) := bce hb
          replace h2_0 : w2.cell? ⟨g, 8, none⟩ = some (.int .i64 pa2) := bce hb
          replace h2_1 : w2.cell? ⟨g, 9, none⟩ = some (.int .i64 pb2) := bce hb
          replace h2_2 : w2.cell? ⟨g, 10, none⟩ = some (.int .i64 pc2) := bce hb
          replace h2_3 : w2.cell? ⟨g, 11, none⟩ = some (.int .i64 pd2) := bce hb
          have r1_0 : w2.cell? ⟨w1.heap.size, 0, none⟩ = some (.int .i64 0) := bce hb
          have r1_1 : w2.cell? ⟨w1.heap.size, 1, none⟩ = some (.int .i64 1) := bce hb
          have f1_0 : w2.frozen? ⟨w1.heap.size, 0, none⟩ = false := bfz hb
          have f1_1 : w2.frozen? ⟨w1.heap.size, 1, none⟩ = false := bfz hb
          clear hb HB1
          have zy0_2 : w.heap.size < w2.heap.size := by omega
          have zn_g_2 : g < w2.heap.size := by omega
          have zz_w1_2 : w1.heap.size < w2.heap.size := by omega
          go_wp2_with fail
          with_reducible refine (S0 _).mono ?_
          rintro e w3 ⟨rfl, hb⟩
          have HB3 : Below w.heap.size w w3 := by
            refine Below.trans ?_ (hb.mono ?_)
            · exact kb
            · first | omega | (simp <;> omega)
          have zs3 : w2.heap.size + 1 < w3.heap.size + 1 := by have := hb.size; (try simp at this); omega
          replace kc0 : w3.cell? ⟨w.heap.size, 0, none⟩ = some (.int .i64 0) := bce hb
          replace kc1 : w3.cell? ⟨w.heap.size, 1, none⟩ = some (.int .i64 0) := bce hb
          replace kcf0 : w3.frozen? ⟨w.heap.size, 0, none⟩ = false := bfz hb
          replace kcf1 : w3.frozen? ⟨w.heap.size, 1, none⟩ = false := bfz hb
          replace h1_0 : w3.cell? ⟨g, 4, none⟩ = some (.int .i64 pa1) := bce hb
          replace h1_1 : w3.cell? ⟨g, 5, none⟩ = some (.int .i64 pb1) := bce hb
          replace h1_2 : w3.cell? ⟨g, 6, none⟩ = some (.int .i64 pc1) := bce hb
          replace h1_3 : w3.cell? ⟨g, 7, none⟩ = some (.int .i64 pd1) := bce hb
          replace h2_0 : w3.cell? ⟨g, 8, none⟩ = some (.int .i64 pa2) := bce hb
          replace h2_1 : w3.cell? ⟨g, 9, none⟩ = some (.int .i64 pb2) := bce hb
          replace h2_2 : w3.cell? ⟨g, 10, none⟩ = some (.int .i64 pc2) := bce hb
          replace h2_3 : w3.cell? ⟨g, 11, none⟩ = some (.int .i64 pd2) := bce hb
          replace r1_0 : w3.cell? ⟨w1.heap.size, 0, none⟩ = some (.int .i64 0) := bce hb
          replace r1_1 : w3.cell? ⟨w1.heap.size, 1, none⟩ = some (.int .i64 1) := bce hb
          replace f1_0 : w3.frozen? ⟨w1.heap.size, 0, none⟩ = false := bfz hb
          replace f1_1 : w3.frozen? ⟨w1.heap.size, 1, none⟩ = false := bfz hb
          clear hb HB2
          have zy0_3 : w.heap.size < w3.heap.size := by omega
          have zn_g_3 : g < w3.heap.size := by omega
          have zz_w1_3 : w1.heap.size < w3.heap.size := by omega
          have zz_w2_3 : w2.heap.size < w3.heap.size := by omega
          go_wp2_with fail
          rw [rounds_succ]
          go_wp2_with fail
          with_reducible refine (M1 _).mono ?_
          rintro e w4 ⟨rfl, hb⟩
          have HB4 : Below w.heap.size w w4 := by
            refine Below.trans ?_ (hb.mono ?_)
            · exact kb
            · first | omega | (simp <;> omega)
          have zs4 : w3.heap.size + 0 < w4.heap.size + 1 := by have := hb.size; (try simp at this); omega
          replace kc0 : w4.cell? ⟨w.heap.size, 0, none⟩ = some (.int .i64 0) := bce hb
          replace kc1 : w4.cell? ⟨w.heap.size, 1, none⟩ = some (.int .i64 0) := bce hb
          replace kcf0 : w4.frozen? ⟨w.heap.size, 0, none⟩ = false := bfz hb
          replace kcf1 : w4.frozen? ⟨w.heap.size, 1, none⟩ = false := bfz hb
          replace h1_0 : w4.cell? ⟨g, 4, none⟩ = some (.int .i64 pa1) := bce hb
          replace h1_1 : w4.cell? ⟨g, 5, none⟩ = some (.int .i64 pb1) := bce hb
          replace h1_2 : w4.cell? ⟨g, 6, none⟩ = some (.int .i64 pc1) := bce hb
          replace h1_3 : w4.cell? ⟨g, 7, none⟩ = some (.int .i64 pd1) := bce hb
          replace h2_0 : w4.cell? ⟨g, 8, none⟩ = some (.int .i64 pa2) := bce hb
          replace h2_1 : w4.cell? ⟨g, 9, none⟩ = some (.int .i64 pb2) := bce hb
          replace h2_2 : w4.cell? ⟨g, 10, none⟩ = some (.int .i64 pc2) := bce hb
          replace h2_3 : w4.cell? ⟨g, 11, none⟩ = some (.int .i64 pd2) := bce hb
          replace r1_0 : w4.cell? ⟨w1.heap.size, 0, none⟩ = some (.int .i64 x1) := bce hb
          replace r1_1 : w4.cell? ⟨w1.heap.size, 1, none⟩ = some (.int .i64 x2) := bce hb
          replace f1_0 : w4.frozen? ⟨w1.heap.size, 0, none⟩ = false := bfz hb
          replace f1_1 : w4.frozen? ⟨w1.heap.size, 1, none⟩ = false := bfz hb
          clear hb HB3
          have zy0_4 : w.heap.size < w4.heap.size := by omega
          have zn_g_4 : g < w4.heap.size := by omega
          have zz_w1_4 : w1.heap.size < w4.heap.size := by omega
          have zz_w2_4 : w2.heap.size < w4.heap.size := by omega
          go_wp2_with fail
          with_reducible refine (S1 _).mono ?_
          rintro e w5 ⟨rfl, hb⟩
          have HB5 : Below w.heap.size w w5 := by
            refine Below.trans ?_ (hb.mono ?_)
            · exact kb
            · first | omega | (simp <;> omega)
          have zs5 : w4.heap.size + 1 < w5.heap.size + 1 := by have := hb.size; (try simp at this); omega
          replace kc0 : w5.cell? ⟨w.heap.size, 0, none⟩ = some (.int .i64 0) := bce hb
          replace kc1 : w5.cell? ⟨w.heap.size, 1, none⟩ = some (.int .i64 0) := bce hb
          replace kcf0 : w5.frozen? ⟨w.heap.size, 0, none⟩ = false := bfz hb
          replace kcf1 : w5.frozen? ⟨w.heap.size, 1, none⟩ = false := bfz hb
          replace h2_0 : w5.cell? ⟨g, 8, none⟩ = some (.int .i64 pa2) := bce hb
          replace h2_1 : w5.cell? ⟨g, 9, none⟩ = some (.int .i64 pb2) := bce hb
          replace h2_2 : w5.cell? ⟨g, 10, none⟩ = some (.int .i64 pc2) := bce hb
          replace h2_3 : w5.cell? ⟨g, 11, none⟩ = some (.int .i64 pd2) := bce hb
          replace r1_0 : w5.cell? ⟨w1.heap.size, 0, none⟩ = some (.int .i64 x1) := bce hb
          replace r1_1 : w5.cell? ⟨w1.heap.size, 1, none⟩ = some (.int .i64 x2) := bce hb
          replace f1_0 : w5.frozen? ⟨w1.heap.size, 0, none⟩ = false := bfz hb
          replace f1_1 : w5.frozen? ⟨w1.heap.size, 1, none⟩ = false := bfz hb
          clear hb HB4
          have zy0_5 : w.heap.size < w5.heap.size := by omega
          have zn_g_5 : g < w5.heap.size := by omega
          have zz_w1_5 : w1.heap.size < w5.heap.size := by omega
          have zz_w2_5 : w2.heap.size < w5.heap.size := by omega
          have zz_w4_5 : w4.heap.size < w5.heap.size := by omega
          go_wp2_with fail
          rw [rounds_succ]
          go_wp2_with fail
          with_reducible refine (M2 _).mono ?_
          rintro e w6 ⟨rfl, hb⟩
          have HB6 : Below w.heap.size w w6 := by
            refine Below.trans ?_ (hb.mono ?_)
            · exact kb
            · first | omega | (simp <;> omega)
          have zs6 : w5.heap.size + 0 < w6.heap.size + 1 := by have := hb.size; (try simp at this); omega
          replace kc0 : w6.cell? ⟨w.heap.size, 0, none⟩ = some (.int .i64 0) := bce hb
          replace kc1 : w6.cell? ⟨w.heap.size, 1, none⟩ = some (.int .i64 0) := bce hb
          replace kcf0 : w6.frozen? ⟨w.heap.size, 0, none⟩ = false := bfz hb
          replace kcf1 : w6.frozen? ⟨w.heap.size, 1, none⟩ = false := bfz hb
          replace h2_0 : w6.cell? ⟨g, 8, none⟩ = some (.int .i64 pa2) := bce hb
          replace h2_1 : w6.cell? ⟨g, 9, none⟩ = some (.int .i64 pb2) := bce hb
          replace h2_2 : w6.cell? ⟨g, 10, none⟩ = some (.int .i64 pc2) := bce hb
          replace h2_3 : w6.cell? ⟨g, 11, none⟩ = some (.int .i64 pd2) := bce hb
          replace r1_0 : w6.cell? ⟨w1.heap.size, 0, none⟩ = some (.int .i64 u1) := bce hb
          replace r1_1 : w6.cell? ⟨w1.heap.size, 1, none⟩ = some (.int .i64 u2) := bce hb
          replace f1_0 : w6.frozen? ⟨w1.heap.size, 0, none⟩ = false := bfz hb
          replace f1_1 : w6.frozen? ⟨w1.heap.size, 1, none⟩ = false := bfz hb
          clear hb HB5
          have zy0_6 : w.heap.size < w6.heap.size := by omega
          have zn_g_6 : g < w6.heap.size := by omega
          have zz_w1_6 : w1.heap.size < w6.heap.size := by omega
          have zz_w2_6 : w2.heap.size < w6.heap.size := by omega
          have zz_w4_6 : w4.heap.size < w6.heap.size := by omega
          go_wp2
          refine bodyPost_ret (by simp [results, Try.results116, go_sem, ext_cell, kp, *]; try rfl) rfl ?_
          exact ⟨rfl, kb⟩
      · rw [show (fsI 0 0 (fsI u3 z3 v3)) = u3 by simp [fsI, q3], vzn q3, vzn q3]
        have qe : (u3 == 0) = false := by simp [q3]
        clear q3 M2 S2
        have AW := fun w => vec_whole 0 w
        have xR := xRul
        go_enter Try.func116, Try.ntmps116
        go_wp2_with fail
        with_reducible refine (AW _).mono ?_
        rintro e w1 ⟨rfl, hb⟩
        have HB1 : Below w.heap.size w w1 := by
          refine Below.trans ?_ (hb.mono ?_)
          · exact kb
          · first | omega | (simp <;> omega)
        have zs1 : w.heap.size + 1 < w1.heap.size + 1 := by have := hb.size; (try simp at this); omega
        have kc0 : w1.cell? ⟨w.heap.size, 0, none⟩ = some (.int .i64 0) := bce hb
        have kc1 : w1.cell? ⟨w.heap.size, 1, none⟩ = some (.int .i64 0) := bce hb
        have kcf0 : w1.frozen? ⟨w.heap.size, 0, none⟩ = false := bfz hb
        have kcf1 : w1.frozen? ⟨w.heap.size, 1, none⟩ = false := bfz hb
        replace h0_0 : w1.cell? ⟨g, 0, none⟩ = some (.int .i64 pa0) := bce hb
        replace h0_1 : w1.cell? ⟨g, 1, none⟩ = some (.int .i64 pb0) := bce hb
        replace h0_2 : w1.cell? ⟨g, 2, none⟩ = some (.int .i64 pc0) := bce hb
        replace h0_3 : w1.cell? ⟨g, 3, none⟩ = some (.int .i64 pd0) := bce hb
        replace h1_0 : w1.cell? ⟨g, 4, none⟩ = some (.int .i64 pa1) := bce hb
        replace h1_1 : w1.cell? ⟨g, 5, none⟩ = some (.int .i64 pb1) := bce hb
        replace h1_2 : w1.cell? ⟨g, 6, none⟩ = some (.int .i64 pc1) := bce hb
        replace h1_3 : w1.cell? ⟨g, 7, none⟩ = some (.int .i64 pd1) := bce hb
        replace h2_0 : w1.cell? ⟨g, 8, none⟩ = some (.int .i64 pa2) := bce hb
        replace h2_1 : w1.cell? ⟨g, 9, none⟩ = some (.int .i64 pb2) := bce hb
        replace h2_2 : w1.cell? ⟨g, 10, none⟩ = some (.int .i64 pc2) := bce hb
        replace h2_3 : w1.cell? ⟨g, 11, none⟩ = some (.int .i64 pd2) := bce hb
        clear hb
        have zy0_1 : w.heap.size < w1.heap.size := by omega
        have zn_g_1 : g < w1.heap.size := by omega
        clear AW
        go_wp2_with fail
        refine wp_loop_rounds 4 ?_
        rw [rounds_succ]
        go_wp2_with fail
        with_reducible refine (M0 _).mono ?_
        rintro e w2 ⟨rfl, hb⟩
        have HB2 : Below w.heap.size w w2 := by
          refine Below.trans ?_ (hb.mono ?_)
          · exact kb
          · first | omega | (simp <;> omega)
        have zs2 : w1.heap.size + 1 < w2.heap.size + 1 := by have := hb.size; (try simp at this); omega
        replace kc0 : w2.cell? ⟨w.heap.size, 0, none⟩ = some (.int .i64 0) := bce hb
        replace kc1 : w2.cell? ⟨w.heap.size, 1, none⟩ = some (.int .i64 0) := bce hb
        replace kcf0 : w2.frozen? ⟨w.heap.size, 0, none⟩ = false := bfz hb
        replace kcf1 : w2.frozen? ⟨w.heap.size, 1, none⟩ = false := bfz hb
        replace h0_0 : w2.cell? ⟨g, 0, none⟩ = some (.int .i64 pa0) := bce hb
        replace h0_1 : w2.cell? ⟨g, 1, none⟩ = some (.int .i64 pb0) := bce hb
        replace h0_2 : w2.cell? ⟨g, 2, none⟩ = some (.int .i64 pc0) := bce hb
        replace h0_3 : w2.cell? ⟨g, 3, none⟩ = some (.int .i64 pd0) := bce hb
        replace h1_0 : w2.cell? ⟨g, 4, none⟩ = some (.int .i64 pa1) := bce hb
        replace h1_1 : w2.cell? ⟨g, 5, none⟩ = some (.int .i64 pb1) := bce hb
        replace h1_2 : w2.cell? ⟨g, 6, none⟩ = some (.int .i64 pc1) := bce hb
        replace h1_3 : w2.cell? ⟨g, 7, none⟩ = some (.int .i64 pd1) := bce hb
        replace h2_0 : w2.cell? ⟨g, 8, none⟩ = some (.int .i64 pa2) := bce hb
        replace h2_1 : w2.cell? ⟨g, 9, none⟩ = some (.int .i64 pb2) := bce hb
        replace h2_2 : w2.cell? ⟨g, 10, none⟩ = some (.int .i64 pc2) := bce hb
        replace h2_3 : w2.cell? ⟨g, 11, none⟩ = some (.int .i64 pd2) := bce hb
        have r1_0 : w2.cell? ⟨w1.heap.size, 0, none⟩ = some (.int .i64 0) := bce hb
        have r1_1 : w2.cell? ⟨w1.heap.size, 1, none⟩ = some (.int .i64 1) := bce hb
        have f1_0 : w2.frozen? ⟨w1.heap.size, 0, none⟩ = false := bfz hb
        have f1_1 : w2.frozen? ⟨w1.heap.size, 1, none⟩ = false := bfz hb
        clear hb HB1
        have zy0_2 : w.heap.size < w2.heap.size := by omega
        have zn_g_2 : g < w2.heap.size := by omega
        have zz_w1_2 : w1.heap.size < w2.heap.size := by omega
        go_wp2_with fail
        with_reducible refine (S0 _).mono ?_
        rintro e w3 ⟨rfl, hb⟩
        have HB3 : Below w.heap.size w w3 := by
          refine Below.trans ?_ (hb.mono ?_)
          · exact kb
          · first | omega | (simp <;> omega)
        have zs3 : w2.heap.size + 1 < w3.heap.size + 1 := by have := hb.size; (try simp at this); omega
        replace kc0 : w3.cell? ⟨w.heap.size, 0, none⟩ = some (.int .i64 0) := bce hb
        replace kc1 : w3.cell? ⟨w.heap.size, 1, none⟩ = some (.int .i64 0) := bce hb
        replace kcf0 : w3.frozen? ⟨w.heap.size, 0, none⟩ = false := bfz hb
        replace kcf1 : w3.frozen? ⟨w.heap.size, 1, none⟩ = false := bfz hb
        replace h1_0 : w3.cell? ⟨g, 4, none⟩ = some (.int .i64 pa1) := bce hb
        replace h1_1 : w3.cell? ⟨g, 5, none⟩ = some (.int .i64 pb1) := bce hb
        replace h1_2 : w3.cell? ⟨g, 6, none⟩ = some (.int .i64 pc1) := bce hb
        replace h1_3 : w3.cell? ⟨g, 7, none⟩ = some (.int .i64 pd1) := bce hb
        replace h2_0 : w3.cell? ⟨g, 8, none⟩ = some (.int .i64 pa2) := bce hb
        replace h2_1 : w3.cell? ⟨g, 9, none⟩ = some (.int .i64 pb2) := bce hb
        replace h2_2 : w3.cell? ⟨g, 10, none⟩ = some (.int .i64 pc2) := bce hb
        replace h2_3 : w3.cell? ⟨g, 11, none⟩ = some (.int .i64 pd2) := bce hb
        replace r1_0 : w3.cell? ⟨w1.heap.size, 0, none⟩ = some (.int .i64 0) := bce hb
        replace r1_1 : w3.cell? ⟨w1.heap.size, 1, none⟩ = some (.int .i64 1) := bce hb
        replace f1_0 : w3.frozen? ⟨w1.heap.size, 0, none⟩ = false := bfz hb
        replace f1_1 : w3.frozen? ⟨w1.heap.size, 1, none⟩ = false := bfz hb
        clear hb HB2
        have zy0_3 : w.heap.size < w3.heap.size := by omega
        have zn_g_3 : g < w3.heap.size := by omega
        have zz_w1_3 : w1.heap.size < w3.heap.size := by omega
        have zz_w2_3 : w2.heap.size < w3.heap.size := by omega
        go_wp2_with fail
        rw [rounds_succ]
        go_wp2_with fail
        with_reducible refine (M1 _).mono ?_
        rintro e w4 ⟨rfl, hb⟩
        have HB4 : Below w.heap.size w w4 := by
          refine Below.trans ?_ (hb.mono ?_)
          · exact kb
          · first | omega | (simp <;> omega)
        have zs4 : w3.heap.size + 0 < w4.heap.size + 1 := by have := hb.size; (try simp at this); omega
        replace kc0 : w4.cell? ⟨w.heap.size, 0, none⟩ = some (.int .i64 0) := bce hb
        replace kc1 : w4.cell? ⟨w.heap.size, 1, none⟩ = some (.int .i64 0) := bce hb
        replace kcf0 : w4.frozen? ⟨w.heap.size, 0, none⟩ = false := bfz hb
        replace kcf1 : w4.frozen? ⟨w.heap.size, 1, none⟩ = false := bfz hb
        replace h1_0 : w4.cell? ⟨g, 4, none⟩ = some (.int .i64 pa1) := bce hb
        replace h1_1 : w4.cell? ⟨g, 5, none⟩ = some (.int .i64 pb1) := bce hb
        replace h1_2 : w4.cell? ⟨g, 6, none⟩ = some (.int .i64 pc1) := bce hb
        replace h1_3 : w4.cell? ⟨g, 7, none⟩ = some (.int .i64 pd1) := bce hb
        replace h2_0 : w4.cell? ⟨g, 8, none⟩ = some (.int .i64 pa2) := bce hb
        replace h2_1 : w4.cell? ⟨g, 9, none⟩ = some (.int .i64 pb2) := bce hb
        replace h2_2 : w4.cell? ⟨g, 10, none⟩ = some (.int .i64 pc2) := bce hb
        replace h2_3 : w4.cell? ⟨g, 11, none⟩ = some (.int .i64 pd2) := bce hb
        replace r1_0 : w4.cell? ⟨w1.heap.size, 0, none⟩ = some (.int .i64 x1) := bce hb
        replace r1_1 : w4.cell? ⟨w1.heap.size, 1, none⟩ = some (.int .i64 x2) := bce hb
        replace f1_0 : w4.frozen? ⟨w1.heap.size, 0, none⟩ = false := bfz hb
        replace f1_1 : w4.frozen? ⟨w1.heap.size, 1, none⟩ = false := bfz hb
        clear hb HB3
        have zy0_4 : w.heap.size < w4.heap.size := by omega
        have zn_g_4 : g < w4.heap.size := by omega
        have zz_w1_4 : w1.heap.size < w4.heap.size := by omega
        have zz_w2_4 : w2.heap.size < w4.heap.size := by omega
        go_wp2_with fail
        with_reducible refine (S1 _).mono ?_
        rintro e w5 ⟨rfl, hb⟩
        have HB5 : Below w.heap.size w w5 := by
          refine Below.trans ?_ (hb.mono ?_)
          · exact kb
          · first | omega | (simp <;> omega)
        have zs5 : w4.heap.size + 1 < w5.heap.size + 1 := by have := hb.size; (try simp at this); omega
        replace kc0 : w5.cell? ⟨w.heap.size, 0, none⟩ = some (.int .i64 0) := bce hb
        replace kc1 : w5.cell? ⟨w.heap.size, 1, none⟩ = some (.int .i64 0) := bce hb
        replace kcf0 : w5.frozen? ⟨w.heap.size, 0, none⟩ = false := bfz hb
        replace kcf1 : w5.frozen? ⟨w.heap.size, 1, none⟩ = false := bfz hb
        replace h2_0 : w5.cell? ⟨g, 8, none⟩ = some (.int .i64 pa2) := bce hb
        replace h2_1 : w5.cell? ⟨g, 9, none⟩ = some (.int .i64 pb2) := bce hb
        replace h2_2 : w5.cell? ⟨g, 10, none⟩ = some (.int .i64 pc2) := bce hb
        replace h2_3 : w5.cell? ⟨g, 11, none⟩ = some (.int .i64 pd2) := bce hb
        replace r1_0 : w5.cell? ⟨w1.heap.size, 0, none⟩ = some (.int .i64 x1) := bce hb
        replace r1_1 : w5.cell? ⟨w1.heap.size, 1, none⟩ = some (.int .i64 x2) := bce hb
        replace f1_0 : w5.frozen? ⟨w1.heap.size, 0, none⟩ = false := bfz hb
        replace f1_1 : w5.frozen? ⟨w1.heap.size, 1, none⟩ = false := bfz hb
        clear hb HB4
        have zy0_5 : w.heap.size < w5.heap.size := by omega
        have zn_g_5 : g < w5.heap.size := by omega
        have zz_w1_5 : w1.heap.size < w5.heap.size := by omega
        have zz_w2_5 : w2.heap.size < w5.heap.size := by omega
        have zz_w4_5 : w4.heap.size < w5.heap.size := by omega
        go_wp2
        refine bodyPost_ret (by simp [results, Try.results116, go_sem, ext_cell, kp, *]; try rfl) rfl ?_
        exact ⟨rfl, kb⟩
    · rw [show (fsI 0 y3 (fsI u3 z3 v3)) = y3 by simp [fsI, q2], vzn q2, vzn q2]
      have qe : (y3 == 0) = false := by simp [q2]
      clear q2 S1 M2 S2
      have AW := fun w => vec_whole 0 w
      have xR := xRul
      go_enter Try.func116, Try.ntmps116
      go_wp2_with fail
      with_reducible refine (AW _).mono ?_
      rintro e w1 ⟨rfl, hb⟩
      have HB1 : Below w.heap.size w w1 := by
        refine Below.trans ?_ (hb.mono ?_)
        · exact kb
        · first | omega | (simp <;> omega)
      have zs1 : w.heap.size + 1 < w1.heap.size + 1 := by have := hb.size; (try simp at this); omega
      have kc0 : w1.cell? ⟨w.heap.size, 0, none⟩ = some (.int .i64 0) := bce hb
      have kc1 : w1.cell? ⟨w.heap.size, 1, none⟩ = some (.int .i64 0) := bce hb
      have kcf0 : w1.frozen? ⟨w.heap.size, 0, none⟩ = false := bfz hb
      have kcf1 : w1.frozen? ⟨w.heap.size, 1, none⟩ = false := bfz hb
      replace h0_0 : w1.cell? ⟨g, 0, none⟩ = some (.int .i64 pa0) := bce hb
      replace h0_1 : w1.cell? ⟨g, 1, none⟩ = some (.int .i64 pb0) := bce hb
      replace h0_2 : w1.cell? ⟨g, 2, none⟩ = some (.int .i64 pc0) := bce hb
      replace h0_3 : w1.cell? ⟨g, 3, none⟩ = some (.int .i64 pd0) := bce hb
      replace h1_0 : w1.cell? ⟨g, 4, none⟩ = some (.int .i64 pa1) := bce hb
      replace h1_1 : w1.cell? ⟨g, 5, none⟩ = some (.int .i64 pb1) := bce hb
      replace h1_2 : w1.cell? ⟨g, 6, none⟩ = some (.int .i64 pc1) := bce hb
      replace h1_3 : w1.cell? ⟨g, 7, none⟩ = some (.int .i64 pd1) := bce hb
      replace h2_0 : w1.cell? ⟨g, 8, none⟩ = some (.int .i64 pa2) := bce hb
      replace h2_1 : w1.cell? ⟨g, 9, none⟩ = some (.int .i64 pb2) := bce hb
      replace h2_2 : w1.cell? ⟨g, 10, none⟩ = some (.int .i64 pc2) := bce hb
      replace h2_3 : w1.cell? ⟨g, 11, none⟩ = some (.int .i64 pd2) := bce hb
      clear hb
      have zy0_1 : w.heap.size < w1.heap.size := by omega
      have zn_g_1 : g < w1.heap.size := by omega
      clear AW
      go_wp2_with fail
      refine wp_loop_rounds 4 ?_
      rw [rounds_succ]
      go_wp2_with fail
      with_reducible refine (M0 _).mono ?_
      rintro e w2 ⟨rfl, hb⟩
      have HB2 : Below w.heap.size w w2 := by
        refine Below.trans ?_ (hb.mono ?_)
        · exact kb
        · first | omega | (simp <;> omega)
      have zs2 : w1.heap.size + 1 < w2.heap.size + 1 := by have := hb.size; (try simp at this); omega
      replace kc0 : w2.cell? ⟨w.heap.size, 0, none⟩ = some (.int .i64 0) := bce hb
      replace kc1 : w2.cell? ⟨w.heap.size, 1, none⟩ = some (.int .i64 0) := bce hb
      replace kcf0 : w2.frozen? ⟨w.heap.size, 0, none⟩ = false := bfz hb
      replace kcf1 : w2.frozen? ⟨w.heap.size, 1, none⟩ = false := bfz hb
      replace h0_0 : w2.cell? ⟨g, 0, none⟩ = some (.int .i64 pa0) := bce hb
      replace h0_1 : w2.cell? ⟨g, 1, none⟩ = some (.int .i64 pb0) := bce hb
      replace h0_2 : w2.cell? ⟨g, 2, none⟩ = some (.int .i64 pc0) := bce hb
      replace h0_3 : w2.cell? ⟨g, 3, none⟩ = some (.int .i64 pd0) := bce hb
      replace h1_0 : w2.cell? ⟨g, 4, none⟩ = some (.int .i64 pa1) := bce hb
      replace h1_1 : w2.cell? ⟨g, 5, none⟩ = some (.int .i64 pb1) := bce hb
      replace h1_2 : w2.cell? ⟨g, 6, none⟩ = some (.int .i64 pc1) := bce hb
      replace h1_3 : w2.cell? ⟨g, 7, none⟩ = some (.int .i64 pd1) := bce hb
      replace h2_0 : w2.cell? ⟨g, 8, none⟩ = some (.int .i64 pa2) := bce hb
      replace h2_1 : w2.cell? ⟨g, 9, none⟩ = some (.int .i64 pb2) := bce hb
      replace h2_2 : w2.cell? ⟨g, 10, none⟩ = some (.int .i64 pc2) := bce hb
      replace h2_3 : w2.cell? ⟨g, 11, none⟩ = some (.int .i64 pd2) := bce hb
      have r1_0 : w2.cell? ⟨w1.heap.size, 0, none⟩ = some (.int .i64 0) := bce hb
      have r1_1 : w2.cell? ⟨w1.heap.size, 1, none⟩ = some (.int .i64 1) := bce hb
      have f1_0 : w2.frozen? ⟨w1.heap.size, 0, none⟩ = false := bfz hb
      have f1_1 : w2.frozen? ⟨w1.heap.size, 1, none⟩ = false := bfz hb
      clear hb HB1
      have zy0_2 : w.heap.size < w2.heap.size := by omega
      have zn_g_2 : g < w2.heap.size := by omega
      have zz_w1_2 : w1.heap.size < w2.heap.size := by omega
      go_wp2_with fail
      with_reducible refine (S0 _).mono ?_
      rintro e w3 ⟨rfl, hb⟩
      have HB3 : Below w.heap.size w w3 := by
        refine Below.trans ?_ (hb.mono ?_)
        · exact kb
        · first | omega | (simp <;> omega)
      have zs3 : w2.heap.size + 1 < w3.heap.size + 1 := by have := hb.size; (try simp at this); omega
      replace kc0 : w3.cell? ⟨w.heap.size, 0, none⟩ = some (.int .i64 0) := bce hb
      replace kc1 : w3.cell? ⟨w.heap.size, 1, none⟩ = some (.int .i64 0) := bce hb
      replace kcf0 : w3.frozen? ⟨w.heap.size, 0, none⟩ = false := bfz hb
      replace kcf1 : w3.frozen? ⟨w.heap.size, 1, none⟩ = false := bfz hb
      replace h1_0 : w3.cell? ⟨g, 4, none⟩ = some (.int .i64 pa1) := bce hb
      replace h1_1 : w3.cell? ⟨g, 5, none⟩ = some (.int .i64 pb1) := bce hb
      replace h1_2 : w3.cell? ⟨g, 6, none⟩ = some (.int .i64 pc1) := bce hb
      replace h1_3 : w3.cell? ⟨g, 7, none⟩ = some (.int .i64 pd1) := bce hb
      replace h2_0 : w3.cell? ⟨g, 8, none⟩ = some (.int .i64 pa2) := bce hb
      replace h2_1 : w3.cell? ⟨g, 9, none⟩ = some (.int .i64 pb2) := bce hb
      replace h2_2 : w3.cell? ⟨g, 10, none⟩ = some (.int .i64 pc2) := bce hb
      replace h2_3 : w3.cell? ⟨g, 11, none⟩ = some (.int .i64 pd2) := bce hb
      replace r1_0 : w3.cell? ⟨w1.heap.size, 0, none⟩ = some (.int .i64 0) := bce hb
      replace r1_1 : w3.cell? ⟨w1.heap.size, 1, none⟩ = some (.int .i64 1) := bce hb
      replace f1_0 : w3.frozen? ⟨w1.heap.size, 0, none⟩ = false := bfz hb
      replace f1_1 : w3.frozen? ⟨w1.heap.size, 1, none⟩ = false := bfz hb
      clear hb HB2
      have zy0_3 : w.heap.size < w3.heap.size := by omega
      have zn_g_3 : g < w3.heap.size := by omega
      have zz_w1_3 : w1.heap.size < w3.heap.size := by omega
      have zz_w2_3 : w2.heap.size < w3.heap.size := by omega
      go_wp2_with fail
      rw [rounds_succ]
      go_wp2_with fail
      with_reducible refine (M1 _).mono ?_
      rintro e w4 ⟨rfl, hb⟩
      have HB4 : Below w.heap.size w w4 := by
        refine Below.trans ?_ (hb.mono ?_)
        · exact kb
        · first | omega | (simp <;> omega)
      have zs4 : w3.heap.size + 0 < w4.heap.size + 1 := by have := hb.size; (try simp at this); omega
      replace kc0 : w4.cell? ⟨w.heap.size, 0, none⟩ = some (.int .i64 0) := bce hb
      replace kc1 : w4.cell? ⟨w.heap.size, 1, none⟩ = some (.int .i64 0) := bce hb
      replace kcf0 : w4.frozen? ⟨w.heap.size, 0, none⟩ = false := bfz hb
      replace kcf1 : w4.frozen? ⟨w.heap.size, 1, none⟩ = false := bfz hb
      replace h1_0 : w4.cell? ⟨g, 4, none⟩ = some (.int .i64 pa1) := bce hb
      replace h1_1 : w4.cell? ⟨g, 5, none⟩ = some (.int .i64 pb1) := bce hb
      replace h1_2 : w4.cell? ⟨g, 6, none⟩ = some (.int .i64 pc1) := bce hb
      replace h1_3 : w4.cell? ⟨g, 7, none⟩ = some (.int .i64 pd1) := bce hb
      replace h2_0 : w4.cell? ⟨g, 8, none⟩ = some (.int .i64 pa2) := bce hb
      replace h2_1 : w4.cell? ⟨g, 9, none⟩ = some (.int .i64 pb2) := bce hb
      replace h2_2 : w4.cell? ⟨g, 10, none⟩ = some (.int .i64 pc2) := bce hb
      replace h2_3 : w4.cell? ⟨g, 11, none⟩ = some (.int .i64 pd2) := bce hb
      replace r1_0 : w4.cell? ⟨w1.heap.size, 0, none⟩ = some (.int .i64 x1) := bce hb
      replace r1_1 : w4.cell? ⟨w1.heap.size, 1, none⟩ = some (.int .i64 x2) := bce hb
      replace f1_0 : w4.frozen? ⟨w1.heap.size, 0, none⟩ = false := bfz hb
      replace f1_1 : w4.frozen? ⟨w1.heap.size, 1, none⟩ = false := bfz hb
      clear hb HB3
      have zy0_4 : w.heap.size < w4.heap.size := by omega
      have zn_g_4 : g < w4.heap.size := by omega
      have zz_w1_4 : w1.heap.size < w4.heap.size := by omega
      have zz_w2_4 : w2.heap.size < w4.heap.size := by omega
      go_wp2
      refine bodyPost_ret (by simp [results, Try.results116, go_sem, ext_cell, kp, *]; try rfl) rfl ?_
      exact ⟨rfl, kb⟩
  · rw [show (fsI x3 y3 (fsI u3 z3 v3)) = x3 by simp [fsI, q0], vzn q0, vzn q0]
    have qe : (x3 == 0) = false := by simp [q0]
    clear q0 S0 M1 S1 M2 S2
    have AW := fun w => vec_whole 0 w
    have xR := xRul
    go_enter Try.func116, Try.ntmps116
    go_wp2_with fail
    with_reducible refine (AW _).mono ?_
    rintro e w1 ⟨rfl, hb⟩
    have HB1 : Below w.heap.size w w1 := by
      refine Below.trans ?_ (hb.mono ?_)
      · exact kb
      · first | omega | (simp <;> omega)
    have zs1 : w.heap.size + 1 < w1.heap.size + 1 := by have := hb.size; (try simp at this); omega
    have kc0 : w1.cell? ⟨w.heap.size, 0, none⟩ = some (.int .i64 0) := bce hb
    have kc1 : w1.cell? ⟨w.heap.size, 1, none⟩ = some (.int .i64 0) := bce hb
    have kcf0 : w1.frozen? ⟨w.heap.size, 0, none⟩ = false := bfz hb
    have kcf1 : w1.frozen? ⟨w.heap.size, 1, none⟩ = false := bfz hb
    replace h0_0 : w1.cell? ⟨g, 0, none⟩ = some (.int .i64 pa0) := bce hb
    replace h0_1 : w1.cell? ⟨g, 1, none⟩ = some (.int .i64 pb0) := bce hb
    replace h0_2 : w1.cell? ⟨g, 2, none⟩ = some (.int .i64 pc0) := bce hb
    replace h0_3 : w1.cell? ⟨g, 3, none⟩ = some (.int .i64 pd0) := bce hb
    replace h1_0 : w1.cell? ⟨g, 4, none⟩ = some (.int .i64 pa1) := bce hb
    replace h1_1 : w1.cell? ⟨g, 5, none⟩ = some (.int .i64 pb1) := bce hb
    replace h1_2 : w1.cell? ⟨g, 6, none⟩ = some (.int .i64 pc1) := bce hb
    replace h1_3 : w1.cell? ⟨g, 7, none⟩ = some (.int .i64 pd1) := bce hb
    replace h2_0 : w1.cell? ⟨g, 8, none⟩ = some (.int .i64 pa2) := bce hb
    replace h2_1 : w1.cell? ⟨g, 9, none⟩ = some (.int .i64 pb2) := bce hb
    replace h2_2 : w1.cell? ⟨g, 10, none⟩ = some (.int .i64 pc2) := bce hb
    replace h2_3 : w1.cell? ⟨g, 11, none⟩ = some (.int .i64 pd2) := bce hb
    clear hb
    have zy0_1 : w.heap.size < w1.heap.size := by omega
    have zn_g_1 : g < w1.heap.size := by omega
    clear AW
    go_wp2_with fail
    refine wp_loop_rounds 4 ?_
    rw [rounds_succ]
    go_wp2_with fail
    with_reducible refine (M0 _).mono ?_
    rintro e w2 ⟨rfl, hb⟩
    have HB2 : Below w.heap.size w w2 := by
      refine Below.trans ?_ (hb.mono ?_)
      · exact kb
      · first | omega | (simp <;> omega)
    have zs2 : w1.heap.size + 1 < w2.heap.size + 1 := by have := hb.size; (try simp at this); omega
    replace kc0 : w2.cell? ⟨w.heap.size, 0, none⟩ = some (.int .i64 0) := bce hb
    replace kc1 : w2.cell? ⟨w.heap.size, 1, none⟩ = some (.int .i64 0) := bce hb
    replace kcf0 : w2.frozen? ⟨w.heap.size, 0, none⟩ = false := bfz hb
    replace kcf1 : w2.frozen? ⟨w.heap.size, 1, none⟩ = false := bfz hb
    replace h0_0 : w2.cell? ⟨g, 0, none⟩ = some (.int .i64 pa0) := bce hb
    replace h0_1 : w2.cell? ⟨g, 1, none⟩ = some (.int .i64 pb0) := bce hb
    replace h0_2 : w2.cell? ⟨g, 2, none⟩ = some (.int .i64 pc0) := bce hb
    replace h0_3 : w2.cell? ⟨g, 3, none⟩ = some (.int .i64 pd0) := bce hb
    replace h1_0 : w2.cell? ⟨g, 4, none⟩ = some (.int .i64 pa1) := bce hb
    replace h1_1 : w2.cell? ⟨g, 5, none⟩ = some (.int .i64 pb1) := bce hb
    replace h1_2 : w2.cell? ⟨g, 6, none⟩ = some (.int .i64 pc1) := bce hb
    replace h1_3 : w2.cell? ⟨g, 7, none⟩ = some (.int .i64 pd1) := bce hb
    replace h2_0 : w2.cell? ⟨g, 8, none⟩ = some (.int .i64 pa2) := bce hb
    replace h2_1 : w2.cell? ⟨g, 9, none⟩ = some (.int .i64 pb2) := bce hb
    replace h2_2 : w2.cell? ⟨g, 10, none⟩ = some (.int .i64 pc2) := bce hb
    replace h2_3 : w2.cell? ⟨g, 11, none⟩ = some (.int .i64 pd2) := bce hb
    have r1_0 : w2.cell? ⟨w1.heap.size, 0, none⟩ = some (.int .i64 0) := bce hb
    have r1_1 : w2.cell? ⟨w1.heap.size, 1, none⟩ = some (.int .i64 1) := bce hb
    have f1_0 : w2.frozen? ⟨w1.heap.size, 0, none⟩ = false := bfz hb
    have f1_1 : w2.frozen? ⟨w1.heap.size, 1, none⟩ = false := bfz hb
    clear hb HB1
    have zy0_2 : w.heap.size < w2.heap.size := by omega
    have zn_g_2 : g < w2.heap.size := by omega
    have zz_w1_2 : w1.heap.size < w2.heap.size := by omega
    go_wp2
    refine bodyPost_ret (by simp [results, Try.results116, go_sem, ext_cell, kp, *]; try rfl) rfl ?_
    exact ⟨rfl, kb⟩

end Go.Proofs.Ytdolfdmgdknboaa
