/-
  Package vec: fill with each of the closures.
-/
import Derived.Test.YtmjbeplcabomdaaKu
import Derived.Test.YtmjbeplcabomdaaVe
namespace Go.Proofs.Ytmjbeplcabomdaa
open Go.RowKit
set_option linter.unusedVariables false
set_option linter.unusedSimpArgs false

set_option maxRecDepth 100000 in
set_option maxHeartbeats 3200000 in
theorem fill_comb (B : Nat) (w0 : World) (p0 p1 p2 : Value) (X0 Y0 E0 X1 Y1 E1 X2 Y2 E2 : Int)
    (A0 : ∀ w, Below B w0 w → Calls Try.prog 63 #[.int .i64 0, p0, p1, p2] w fun e w' => e = .returned (.tuple #[.agg #[.int .i64 X0, .int .i64 Y0], .int .i64 E0]) ∧ Below w.heap.size w w')
    (A1 : ∀ w, Below B w0 w → Calls Try.prog 63 #[.int .i64 1, p0, p1, p2] w fun e w' => e = .returned (.tuple #[.agg #[.int .i64 X1, .int .i64 Y1], .int .i64 E1]) ∧ Below w.heap.size w w')
    (A2 : ∀ w, Below B w0 w → Calls Try.prog 63 #[.int .i64 2, p0, p1, p2] w fun e w' => e = .returned (.tuple #[.agg #[.int .i64 X2, .int .i64 Y2], .int .i64 E2]) ∧ Below w.heap.size w w')
    (w : World) (hB : Below B w0 w) (hle : B ≤ w.heap.size) :
    Calls Try.prog 62 #[.func (.func 63) #[] #[p0, p1, p2]] w fun e w' => e = .returned (.tuple #[.agg #[.int .i64 (vz (fsI E0 E1 E2) X0), .int .i64 (vz (fsI E0 E1 E2) Y0), .int .i64 (vz (fsI E0 E1 E2) X1), .int .i64 (vz (fsI E0 E1 E2) Y1), .int .i64 (vz (fsI E0 E1 E2) X2), .int .i64 (vz (fsI E0 E1 E2) Y2)], .int .i64 (fsI E0 E1 E2)]) ∧ Below w.heap.size w w' := by
  by_cases h0 : E0 = 0
  · subst h0
    by_cases h1 : E1 = 0
    · subst h1
      by_cases h2 : E2 = 0
      · subst h2
        rw [show fsI 0 0 0 = 0 from rfl, vz0, vz0, vz0, vz0, vz0, vz0]
        have xR := xRul
        go_enter Try.func62, Try.ntmps62
        go_wp2_with fail
        refine wp_loop_rounds 4 ?_
        rw [rounds_succ]
        go_wp2_with fail
        with_reducible refine (A0 _ ?hw0).mono ?_
        case hw0 =>
          refine Below.trans hB (Below.mono ?_ hle)
          (with_reducible repeat (first | exact b0 _ | refine bal ?_ _ | refine bdn ?_ _ | refine bdr ?_ | refine bse ?_ _))
        rintro e w1 ⟨rfl, hb⟩
        have HB1 : Below w.heap.size w w1 := by
          refine Below.trans ?_ (hb.mono ?_)
          · exact kb
          · first | omega | (simp <;> omega)
        have zs1 : w.heap.size + 2 < w1.heap.size + 1 := by have := hb.size; (try simp at this); omega
        have c0 : w1.cell? ⟨w.heap.size, 0, none⟩ = some (.int .i64 0) := bce hb
        have c1 : w1.cell? ⟨w.heap.size, 1, none⟩ = some (.int .i64 0) := bce hb
        have c2 : w1.cell? ⟨w.heap.size, 2, none⟩ = some (.int .i64 0) := bce hb
        have c3 : w1.cell? ⟨w.heap.size, 3, none⟩ = some (.int .i64 0) := bce hb
        have c4 : w1.cell? ⟨w.heap.size, 4, none⟩ = some (.int .i64 0) := bce hb
        have c5 : w1.cell? ⟨w.heap.size, 5, none⟩ = some (.int .i64 0) := bce hb
        have cf0 : w1.frozen? ⟨w.heap.size, 0, none⟩ = false := bfz hb
        have cf1 : w1.frozen? ⟨w.heap.size, 1, none⟩ = false := bfz hb
        have cf2 : w1.frozen? ⟨w.heap.size, 2, none⟩ = false := bfz hb
        have cf3 : w1.frozen? ⟨w.heap.size, 3, none⟩ = false := bfz hb
        have cf4 : w1.frozen? ⟨w.heap.size, 4, none⟩ = false := bfz hb
        have cf5 : w1.frozen? ⟨w.heap.size, 5, none⟩ = false := bfz hb
        have r0 : w1.cell? ⟨w.heap.size + 1, 0, none⟩ = some (.int .i64 0) := bce hb
        have r1 : w1.cell? ⟨w.heap.size + 1, 1, none⟩ = some (.int .i64 0) := bce hb
        have r2 : w1.cell? ⟨w.heap.size + 1, 2, none⟩ = some (.int .i64 0) := bce hb
        have r3 : w1.cell? ⟨w.heap.size + 1, 3, none⟩ = some (.int .i64 0) := bce hb
        have r4 : w1.cell? ⟨w.heap.size + 1, 4, none⟩ = some (.int .i64 0) := bce hb
        have r5 : w1.cell? ⟨w.heap.size + 1, 5, none⟩ = some (.int .i64 0) := bce hb
        have rf0 : w1.frozen? ⟨w.heap.size + 1, 0, none⟩ = false := bfz hb
        have rf1 : w1.frozen? ⟨w.heap.size + 1, 1, none⟩ = false := bfz hb
        have rf2 : w1.frozen? ⟨w.heap.size + 1, 2, none⟩ = false := bfz hb
        have rf3 : w1.frozen? ⟨w.heap.size + 1, 3, none⟩ = false := bfz hb
        have rf4 : w1.frozen? ⟨w.heap.size + 1, 4, none⟩ = false := bfz hb
        have rf5 : w1.frozen? ⟨w.heap.size + 1, 5, none⟩ = false := bfz hb
        clear hb
        have zy0_1 : w.heap.size < w1.heap.size := by omega
        have zy1_1 : w.heap.size + 1 < w1.heap.size := by omega
        clear A0
        go_wp2_with fail
        rw [rounds_succ]
        go_wp2_with fail
        with_reducible refine (A1 _ ?hw1).mono ?_
        case hw1 =>
          refine Below.trans hB (Below.mono ?_ hle)
          (with_reducible repeat (first | exact HB1 | refine bal ?_ _ | refine bdn ?_ _ | refine bdr ?_ | refine bse ?_ _))
        rintro e w2 ⟨rfl, hb⟩
        have HB2 : Below w.heap.size w w2 := by
          refine Below.trans ?_ (hb.mono ?_)
          · exact kb
          · first | omega | (simp <;> omega)
        have zs2 : w1.heap.size + 0 < w2.heap.size + 1 := by have := hb.size; (try simp at this); omega
        replace c0 : w2.cell? ⟨w.heap.size, 0, none⟩ = some (.int .i64 0) := bce hb
        replace c1 : w2.cell? ⟨w.heap.size, 1, none⟩ = some (.int .i64 0) := bce hb
        replace c2 : w2.cell? ⟨w.heap.size, 2, none⟩ = some (.int .i64 0) := bce hb
        replace c3 : w2.cell? ⟨w.heap.size, 3, none⟩ = some (.int .i64 0) := bce hb
        replace c4 : w2.cell? ⟨w.heap.size, 4, none⟩ = some (.int .i64 0) := bce hb
        replace c5 : w2.cell? ⟨w.heap.size, 5, none⟩ = some (.int .i64 0) := bce hb
        replace cf0 : w2.frozen? ⟨w.heap.size, 0, none⟩ = false := bfz hb
        replace cf1 : w2.frozen? ⟨w.heap.size, 1, none⟩ = false := bfz hb
        replace cf2 : w2.frozen? ⟨w.heap.size, 2, none⟩ = false := bfz hb
        replace cf3 : w2.frozen? ⟨w.heap.size, 3, none⟩ = false := bfz hb
        replace cf4 : w2.frozen? ⟨w.heap.size, 4, none⟩ = false := bfz hb
        replace cf5 : w2.frozen? ⟨w.heap.size, 5, none⟩ = false := bfz hb
        replace r0 : w2.cell? ⟨w.heap.size + 1, 0, none⟩ = some (.int .i64 X0) := bce hb
        replace r1 : w2.cell? ⟨w.heap.size + 1, 1, none⟩ = some (.int .i64 Y0) := bce hb
        replace r2 : w2.cell? ⟨w.heap.size + 1, 2, none⟩ = some (.int .i64 0) := bce hb
        replace r3 : w2.cell? ⟨w.heap.size + 1, 3, none⟩ = some (.int .i64 0) := bce hb
        replace r4 : w2.cell? ⟨w.heap.size + 1, 4, none⟩ = some (.int .i64 0) := bce hb
        replace r5 : w2.cell? ⟨w.heap.size + 1, 5, none⟩ = some (.int .i64 0) := bce hb
        replace rf0 : w2.frozen? ⟨w.heap.size + 1, 0, none⟩ = false := bfz hb
        replace rf1 : w2.frozen? ⟨w.heap.size + 1, 1, none⟩ = false := bfz hb
        replace rf2 : w2.frozen? ⟨w.heap.size + 1, 2, none⟩ = false := bfz hb
        replace rf3 : w2.frozen? ⟨w.heap.size + 1, 3, none⟩ = false := bfz hb
        replace rf4 : w2.frozen? ⟨w.heap.size + 1, 4, none⟩ = false := bfz hb
        replace rf5 : w2.frozen? ⟨w.heap.size + 1, 5, none⟩ = false := bfz hb
        clear hb HB1
        have zy0_2 : w.heap.size < w2.heap.size := by omega
        have zy1_2 : w.heap.size + 1 < w2.heap.size := by omega
        clear A1
        go_wp2_with fail
        rw [rounds_succ]
        go_wp2_with fail
        with_reducible refine (A2 _ ?hw2).mono ?_
        case hw2 =>
          refine Below.trans hB (Below.mono ?_ hle)
          (with_reducible repeat (first | exact HB2 | refine bal ?_ _ | refine bdn ?_ _ | refine bdr ?_ | refine bse ?_ _))
        rintro e w3 ⟨rfl, hb⟩
        have HB3 : Below w.heap.size w w3 := by
          refine Below.trans ?_ (hb.mono ?_)
          · exact kb
          · first | omega | (simp <;> omega)
        have zs3 : w2.heap.size + 0 < w3.heap.size + 1 := by have := hb.size; (try simp at this); omega
        replace c0 : w3.cell? ⟨w.heap.size, 0, none⟩ = some (.int .i64 0) := bce hb
        replace c1 : w3.cell? ⟨w.heap.size, 1, none⟩ = some (.int .i64 0) := bce hb
        replace c2 : w3.cell? ⟨w.heap.size, 2, none⟩ = some (.int .i64 0) := bce hb
        replace c3 : w3.cell? ⟨w.heap.size, 3, none⟩ = some (.int .i64 0) := bce hb
        replace c4 : w3.cell? ⟨w.heap.size, 4, none⟩ = some (.int .i64 0) := bce hb
        replace c5 : w3.cell? ⟨w.heap.size, 5, none⟩ = some (.int .i64 0) := bce hb
        replace cf0 : w3.frozen? ⟨w.heap.size, 0, none⟩ = false := bfz hb
        replace cf1 : w3.frozen? ⟨w.heap.size, 1, none⟩ = false := bfz hb
        replace cf2 : w3.frozen? ⟨w.heap.size, 2, none⟩ = false := bfz hb
        replace cf3 : w3.frozen? ⟨w.heap.size, 3, none⟩ = false := bfz hb
        replace cf4 : w3.frozen? ⟨w.heap.size, 4, none⟩ = false := bfz hb
        replace cf5 : w3.frozen? ⟨w.heap.size, 5, none⟩ = false := bfz hb
        replace r0 : w3.cell? ⟨w.heap.size + 1, 0, none⟩ = some (.int .i64 X0) := bce hb
        replace r1 : w3.cell? ⟨w.heap.size + 1, 1, none⟩ = some (.int .i64 Y0) := bce hb
        replace r2 : w3.cell? ⟨w.heap.size + 1, 2, none⟩ = some (.int .i64 X1) := bce hb
        replace r3 : w3.cell? ⟨w.heap.size + 1, 3, none⟩ = some (.int .i64 Y1) := bce hb
        replace r4 : w3.cell? ⟨w.heap.size + 1, 4, none⟩ = some (.int .i64 0) := bce hb
        replace r5 : w3.cell? ⟨w.heap.size + 1, 5, none⟩ = some (.int .i64 0) := bce hb
        replace rf0 : w3.frozen? ⟨w.heap.size + 1, 0, none⟩ = false := bfz hb
        replace rf1 : w3.frozen? ⟨w.heap.size + 1, 1, none⟩ = false := bfz hb
        replace rf2 : w3.frozen? ⟨w.heap.size + 1, 2, none⟩ = false := bfz hb
        replace rf3 : w3.frozen? ⟨w.heap.size + 1, 3, none⟩ = false := bfz hb
        replace rf4 : w3.frozen? ⟨w.heap.size + 1, 4, none⟩ = false := bfz hb
        replace rf5 : w3.frozen? ⟨w.heap.size + 1, 5, none⟩ = false := bfz hb
        clear hb HB2
        have zy0_3 : w.heap.size < w3.heap.size := by omega
        have zy1_3 : w.heap.size + 1 < w3.heap.size := by omega
        clear A2
        go_wp2_with fail
        rw [rounds_succ]
        go_wp2
        refine bodyPost_ret (by simp [results, Try.results62, go_sem, ext_cell, kp, *]; try rfl) rfl ?_
        exact ⟨rfl, kb⟩
      · rw [show fsI 0 0 E2 = E2 from rfl, vzn h2, vzn h2, vzn h2, vzn h2, vzn h2, vzn h2]
        have e2 : (E2 == 0) = false := by simp [h2]
        clear h2
        have xR := xRul
        go_enter Try.func62, Try.ntmps62
        go_wp2_with fail
        refine wp_loop_rounds 4 ?_
        rw [rounds_succ]
        go_wp2_with fail
        with_reducible refine (A0 _ ?hw0).mono ?_
        case hw0 =>
          refine Below.trans hB (Below.mono ?_ hle)
          (with_reducible repeat (first | exact b0 _ | refine bal ?_ _ | refine bdn ?_ _ | refine bdr ?_ | refine bse ?_ _))
        rintro e w1 ⟨rfl, hb⟩
        have HB1 : Below w.heap.size w w1 := by
          refine Below.trans ?_ (hb.mono ?_)
          · exact kb
          · first | omega | (simp <;> omega)
        have zs1 : w.heap.size + 2 < w1.heap.size + 1 := by have := hb.size; (try simp at this); omega
        have c0 : w1.cell? ⟨w.heap.size, 0, none⟩ = some (.int .i64 0) := bce hb
        have c1 : w1.cell? ⟨w.heap.size, 1, none⟩ = some (.int .i64 0) := bce hb
        have c2 : w1.cell? ⟨w.heap.size, 2, none⟩ = some (.int .i64 0) := bce hb
        have c3 : w1.cell? ⟨w.heap.size, 3, none⟩ = some (.int .i64 0) := bce hb
        have c4 : w1.cell? ⟨w.heap.size, 4, none⟩ = some (.int .i64 0) := bce hb
        have c5 : w1.cell? ⟨w.heap.size, 5, none⟩ = some (.int .i64 0) := bce hb
        have cf0 : w1.frozen? ⟨w.heap.size, 0, none⟩ = false := bfz hb
        have cf1 : w1.frozen? ⟨w.heap.size, 1, none⟩ = false := bfz hb
        have cf2 : w1.frozen? ⟨w.heap.size, 2, none⟩ = false := bfz hb
        have cf3 : w1.frozen? ⟨w.heap.size, 3, none⟩ = false := bfz hb
        have cf4 : w1.frozen? ⟨w.heap.size, 4, none⟩ = false := bfz hb
        have cf5 : w1.frozen? ⟨w.heap.size, 5, none⟩ = false := bfz hb
        have r0 : w1.cell? ⟨w.heap.size + 1, 0, none⟩ = some (.int .i64 0) := bce hb
        have r1 : w1.cell? ⟨w.heap.size + 1, 1, none⟩ = some (.int .i64 0) := bce hb
        have r2 : w1.cell? ⟨w.heap.size + 1, 2, none⟩ = some (.int .i64 0) := bce hb
        have r3 : w1.cell? ⟨w.heap.size + 1, 3, none⟩ = some (.int .i64 0) := bce hb
        have r4 : w1.cell? ⟨w.heap.size + 1, 4, none⟩ = some (.int .i64 0) := bce hb
        have r5 : w1.cell? ⟨w.heap.size + 1, 5, none⟩ = some (.int .i64 0) := bce hb
        have rf0 : w1.frozen? ⟨w.heap.size + 1, 0, none⟩ = false := bfz hb
        have rf1 : w1.frozen? ⟨w.heap.size + 1, 1, none⟩ = false := bfz hb
        have rf2 : w1.frozen? ⟨w.heap.size + 1, 2, none⟩ = false := bfz hb
        have rf3 : w1.frozen? ⟨w.heap.size + 1, 3, none⟩ = false := bfz hb
        have rf4 : w1.frozen? ⟨w.heap.size + 1, 4, none⟩ = false := bfz hb
        have rf5 : w1.frozen? ⟨w.heap.size + 1, 5, none⟩ = false := bfz hb
        clear hb
        have zy0_1 : w.heap.size < w1.heap.size := by omega
        have zy1_1 : w.heap.size + 1 < w1.heap.size := by omega
        clear A0
        go_wp2_with fail
        rw [rounds_succ]
        go_wp2_with fail
        with_reducible refine (A1 _ ?hw1).mono ?_
        case hw1 =>
          refine Below.trans hB (Below.mono ?_ hle)
          (with_reducible repeat (first | exact HB1 | refine bal ?_ _ | refine bdn ?_ _ | refine bdr ?_ | refine bse ?_ _))
        rintro e w2 ⟨rfl, hb⟩
        have HB2 : Below w.heap.size w w2 := by
          refine Below.trans ?_ (hb.mono ?_)
          · exact kb
          · first | omega | (simp <;> omega)
        have zs2 : w1.heap.size + 0 < w2.heap.size + 1 := by have := hb.size; (try simp at this); omega
        replace c0 : w2.cell? ⟨w.heap.size, 0, none⟩ = some (.int .i64 0) := bce hb
        replace c1 : w2.cell? ⟨w.heap.size, 1, none⟩ = some (.int .i64 0) := bce hb
        replace c2 : w2.cell? ⟨w.heap.size, 2, none⟩ = some (.int .i64 0) := bce hb
        replace c3 : w2.cell? ⟨w.heap.size, 3, none⟩ = some (.int .i64 0) := bce hb
        replace c4 : w2.cell? ⟨w.heap.size, 4, none⟩ = some (.int .i64 0) := bce hb
        replace c5 : w2.cell? ⟨w.heap.size, 5, none⟩ = some (.int .i64 0) := bce hb
        replace cf0 : w2.frozen? ⟨w.heap.size, 0, none⟩ = false := bfz hb
        replace cf1 : w2.frozen? ⟨w.heap.size, 1, none⟩ = false := bfz hb
        replace cf2 : w2.frozen? ⟨w.heap.size, 2, none⟩ = false := bfz hb
        replace cf3 : w2.frozen? ⟨w.heap.size, 3, none⟩ = false := bfz hb
        replace cf4 : w2.frozen? ⟨w.heap.size, 4, none⟩ = false := bfz hb
        replace cf5 : w2.frozen? ⟨w.heap.size, 5, none⟩ = false := bfz hb
        replace r0 : w2.cell? ⟨w.heap.size + 1, 0, none⟩ = some (.int .i64 X0) := bce hb
        replace r1 : w2.cell? ⟨w.heap.size + 1, 1, none⟩ = some (.int .i64 Y0) := bce hb
        replace r2 : w2.cell? ⟨w.heap.size + 1, 2, none⟩ = some (.int .i64 0) := bce hb
        replace r3 : w2.cell? ⟨w.heap.size + 1, 3, none⟩ = some (.int .i64 0) := bce hb
        replace r4 : w2.cell? ⟨w.heap.size + 1, 4, none⟩ = some (.int .i64 0) := bce hb
        replace r5 : w2.cell? ⟨w.heap.size + 1, 5, none⟩ = some (.int .i64 0) := bce hb
        replace rf0 : w2.frozen? ⟨w.heap.size + 1, 0, none⟩ = false := bfz hb
        replace rf1 : w2.frozen? ⟨w.heap.size + 1, 1, none⟩ = false := bfz hb
        replace rf2 : w2.frozen? ⟨w.heap.size + 1, 2, none⟩ = false := bfz hb
        replace rf3 : w2.frozen? ⟨w.heap.size + 1, 3, none⟩ = false := bfz hb
        replace rf4 : w2.frozen? ⟨w.heap.size + 1, 4, none⟩ = false := bfz hb
        replace rf5 : w2.frozen? ⟨w.heap.size + 1, 5, none⟩ = false := bfz hb
        clear hb HB1
        have zy0_2 : w.heap.size < w2.heap.size := by omega
        have zy1_2 : w.heap.size + 1 < w2.heap.size := by omega
        clear A1
        go_wp2_with fail
        rw [rounds_succ]
        go_wp2_with fail
        with_reducible refine (A2 _ ?hw2).mono ?_
        case hw2 =>
          refine Below.trans hB (Below.mono ?_ hle)
          (with_reducible repeat (first | exact HB2 | refine bal ?_ _ | refine bdn ?_ _ | refine bdr ?_ | refine bse ?_ _))
        rintro e w3 ⟨rfl, hb⟩
        have HB3 : Below w.heap.size w w3 := by
          refine Below.trans ?_ (hb.mono ?_)
          · exact kb
          · first | omega | (simp <;> omega)
        have zs3 : w2.heap.size + 0 < w3.heap.size + 1 := by have := hb.size; (try simp at this); omega
        replace c0 : w3.cell? ⟨w.heap.size, 0, none⟩ = some (.int .i64 0) := bce hb
        replace c1 : w3.cell? ⟨w.heap.size, 1, none⟩ = some (.int .i64 0) := bce hb
        replace c2 : w3.cell? ⟨w.heap.size, 2, none⟩ = some (.int .i64 0) := bce hb
        replace c3 : w3.cell? ⟨w.heap.size, 3, none⟩ = some (.int .i64 0) := bce hb
        replace c4 : w3.cell? ⟨w.heap.size, 4, none⟩ = some (.int .i64 0) := bce hb
        replace c5 : w3.cell? ⟨w.heap.size, 5, none⟩ = some (.int .i64 0) := bce hb
        replace cf0 : w3.frozen? ⟨w.heap.size, 0, none⟩ = false := bfz hb
        replace cf1 : w3.frozen? ⟨w.heap.size, 1, none⟩ = false := bfz hb
        replace cf2 : w3.frozen? ⟨w.heap.size, 2, none⟩ = false := bfz hb
        replace cf3 : w3.frozen? ⟨w.heap.size, 3, none⟩ = false := bfz hb
        replace cf4 : w3.frozen? ⟨w.heap.size, 4, none⟩ = false := bfz hb
        replace cf5 : w3.frozen? ⟨w.heap.size, 5, none⟩ = false := bfz hb
        replace r0 : w3.cell? ⟨w.heap.size + 1, 0, none⟩ = some (.int .i64 X0) := bce hb
        replace r1 : w3.cell? ⟨w.heap.size + 1, 1, none⟩ = some (.int .i64 Y0) := bce hb
        replace r2 : w3.cell? ⟨w.heap.size + 1, 2, none⟩ = some (.int .i64 X1) := bce hb
        replace r3 : w3.cell? ⟨w.heap.size + 1, 3, none⟩ = some (.int .i64 Y1) := bce hb
        replace r4 : w3.cell? ⟨w.heap.size + 1, 4, none⟩ = some (.int .i64 0) := bce hb
        replace r5 : w3.cell? ⟨w.heap.size + 1, 5, none⟩ = some (.int .i64 0) := bce hb
        replace rf0 : w3.frozen? ⟨w.heap.size + 1, 0, none⟩ = false := bfz hb
        replace rf1 : w3.frozen? ⟨w.heap.size + 1, 1, none⟩ = false := bfz hb
        replace rf2 : w3.frozen? ⟨w.heap.size + 1, 2, none⟩ = false := bfz hb
        replace rf3 : w3.frozen? ⟨w.heap.size + 1, 3, none⟩ = false := bfz hb
        replace rf4 : w3.frozen? ⟨w.heap.size + 1, 4, none⟩ = false := bfz hb
        replace rf5 : w3.frozen? ⟨w.heap.size + 1, 5, none⟩ = false := bfz hb
        clear hb HB2
        have zy0_3 : w.heap.size < w3.heap.size := by omega
        have zy1_3 : w.heap.size + 1 < w3.heap.size := by omega
        clear A2
        go_wp2
        refine bodyPost_ret (by simp [results, Try.results62, go_sem, ext_cell, kp, *]; try rfl) rfl ?_
        exact ⟨rfl, kb⟩
    · rw [show fsI 0 E1 E2 = E1 by unfold fsI; rw [if_pos rfl, if_neg h1], vzn h1, vzn h1, vzn h1, vzn h1, vzn h1, vzn h1]
      have e1 : (E1 == 0) = false := by simp [h1]
      clear h1 A2
      have xR := xRul
      go_enter Try.func62, Try.ntmps62
      go_wp2_with fail
      refine wp_loop_rounds 4 ?_
      rw [rounds_succ]
      go_wp2_with fail
      with_reducible refine (A0 _ ?hw0).mono ?_
      case hw0 =>
        refine Below.trans hB (Below.mono ?_ hle)
        (with_reducible repeat (first | exact b0 _ | refine bal ?_ _ | refine bdn ?_ _ | refine bdr ?_ | refine bse ?_ _))
      rintro e w1 ⟨rfl, hb⟩
      have HB1 : Below w.heap.size w w1 := by
        refine Below.trans ?_ (hb.mono ?_)
        · exact kb
        · first | omega | (simp <;> omega)
      have zs1 : w.heap.size + 2 < w1.heap.size + 1 := by have := hb.size; (try simp at this); omega
      have c0 : w1.cell? ⟨w.heap.size, 0, none⟩ = some (.int .i64 0) := bce hb
      have c1 : w1.cell? ⟨w.heap.size, 1, none⟩ = some (.int .i64 0) := bce hb
      have c2 : w1.cell? ⟨w.heap.size, 2, none⟩ = some (.int .i64 0) := bce hb
      have c3 : w1.cell? ⟨w.heap.size, 3, none⟩ = some (.int .i64 0) := bce hb
      have c4 : w1.cell? ⟨w.heap.size, 4, none⟩ = some (.int .i64 0) := bce hb
      have c5 : w1.cell? ⟨w.heap.size, 5, none⟩ = some (.int .i64 0) := bce hb
      have cf0 : w1.frozen? ⟨w.heap.size, 0, none⟩ = false := bfz hb
      have cf1 : w1.frozen? ⟨w.heap.size, 1, none⟩ = false := bfz hb
      have cf2 : w1.frozen? ⟨w.heap.size, 2, none⟩ = false := bfz hb
      have cf3 : w1.frozen? ⟨w.heap.size, 3, none⟩ = false := bfz hb
      have cf4 : w1.frozen? ⟨w.heap.size, 4, none⟩ = false := bfz hb
      have cf5 : w1.frozen? ⟨w.heap.size, 5, none⟩ = false := bfz hb
      have r0 : w1.cell? ⟨w.heap.size + 1, 0, none⟩ = some (.int .i64 0) := bce hb
      have r1 : w1.cell? ⟨w.heap.size + 1, 1, none⟩ = some (.int .i64 0) := bce hb
      have r2 : w1.cell? ⟨w.heap.size + 1, 2, none⟩ = some (.int .i64 0) := bce hb
      have r3 : w1.cell? ⟨w.heap.size + 1, 3, none⟩ = some (.int .i64 0) := bce hb
      have r4 : w1.cell? ⟨w.heap.size + 1, 4, none⟩ = some (.int .i64 0) := bce hb
      have r5 : w1.cell? ⟨w.heap.size + 1, 5, none⟩ = some (.int .i64 0) := bce hb
      have rf0 : w1.frozen? ⟨w.heap.size + 1, 0, none⟩ = false := bfz hb
      have rf1 : w1.frozen? ⟨w.heap.size + 1, 1, none⟩ = false := bfz hb
      have rf2 : w1.frozen? ⟨w.heap.size + 1, 2, none⟩ = false := bfz hb
      have rf3 : w1.frozen? ⟨w.heap.size + 1, 3, none⟩ = false := bfz hb
      have rf4 : w1.frozen? ⟨w.heap.size + 1, 4, none⟩ = false := bfz hb
      have rf5 : w1.frozen? ⟨w.heap.size + 1, 5, none⟩ = false := bfz hb
      clear hb
      have zy0_1 : w.heap.size < w1.heap.size := by omega
      have zy1_1 : w.heap.size + 1 < w1.heap.size := by omega
      clear A0
      go_wp2_with fail
      rw [rounds_succ]
      go_wp2_with fail
      with_reducible refine (A1 _ ?hw1).mono ?_
      case hw1 =>
        refine Below.trans hB (Below.mono ?_ hle)
        (with_reducible repeat (first | exact HB1 | refine bal ?_ _ | refine bdn ?_ _ | refine bdr ?_ | refine bse ?_ _))
      rintro e w2 ⟨rfl, hb⟩
      have HB2 : Below w.heap.size w w2 := by
        refine Below.trans ?_ (hb.mono ?_)
        · exact kb
        · first | omega | (simp <;> omega)
      have zs2 : w1.heap.size + 0 < w2.heap.size + 1 := by have := hb.size; (try simp at this); omega
      replace c0 : w2.cell? ⟨w.heap.size, 0, none⟩ = some (.int .i64 0) := bce hb
      replace c1 : w2.cell? ⟨w.heap.size, 1, none⟩ = some (.int .i64 0) := bce hb
      replace c2 : w2.cell? ⟨w.heap.size, 2, none⟩ = some (.int .i64 0) := bce hb
      replace c3 : w2.cell? ⟨w.heap.size, 3, none⟩ = some (.int .i64 0) := bce hb
      replace c4 : w2.cell? ⟨w.heap.size, 4, none⟩ = some (.int .i64 0) := bce hb
      replace c5 : w2.cell? ⟨w.heap.size, 5, none⟩ = some (.int .i64 0) := bce hb
      replace cf0 : w2.frozen? ⟨w.heap.size, 0, none⟩ = false := bfz hb
      replace cf1 : w2.frozen? ⟨w.heap.size, 1, none⟩ = false := bfz hb
      replace cf2 : w2.frozen? ⟨w.heap.size, 2, none⟩ = false := bfz hb
      replace cf3 : w2.frozen? ⟨w.heap.size, 3, none⟩ = false := bfz hb
      replace cf4 : w2.frozen? ⟨w.heap.size, 4, none⟩ = false := bfz hb
      replace cf5 : w2.frozen? ⟨w.heap.size, 5, none⟩ = false := bfz hb
      replace r0 : w2.cell? ⟨w.heap.size + 1, 0, none⟩ = some (.int .i64 X0) := bce hb
      replace r1 : w2.cell? ⟨w.heap.size + 1, 1, none⟩ = some (.int .i64 Y0) := bce hb
      replace r2 : w2.cell? ⟨w.heap.size + 1, 2, none⟩ = some (.int .i64 0) := bce hb
      replace r3 : w2.cell? ⟨w.heap.size + 1, 3, none⟩ = some (.int .i64 0) := bce hb
      replace r4 : w2.cell? ⟨w.heap.size + 1, 4, none⟩ = some (.int .i64 0) := bce hb
      replace r5 : w2.cell? ⟨w.heap.size + 1, 5, none⟩ = some (.int .i64 0) := bce hb
      replace rf0 : w2.frozen? ⟨w.heap.size + 1, 0, none⟩ = false := bfz hb
      replace rf1 : w2.frozen? ⟨w.heap.size + 1, 1, none⟩ = false := bfz hb
      replace rf2 : w2.frozen? ⟨w.heap.size + 1, 2, none⟩ = false := bfz hb
      replace rf3 : w2.frozen? ⟨w.heap.size + 1, 3, none⟩ = false := bfz hb
      replace rf4 : w2.frozen? ⟨w.heap.size + 1, 4, none⟩ = false := bfz hb
      replace rf5 : w2.frozen? ⟨w.heap.size + 1, 5, none⟩ = false := bfz hb
      clear hb HB1
      have zy0_2 : w.heap.size < w2.heap.size := by omega
      have zy1_2 : w.heap.size + 1 < w2.heap.size := by omega
      clear A1
      go_wp2
      refine bodyPost_ret (by simp [results, Try.results62, go_sem, ext_cell, kp, *]; try rfl) rfl ?_
      exact ⟨rfl, kb⟩
  · rw [show fsI E0 E1 E2 = E0 by unfold fsI; rw [if_neg h0], vzn h0, vzn h0, vzn h0, vzn h0, vzn h0, vzn h0]
    have e0 : (E0 == 0) = false := by simp [h0]
    clear h0 A1 A2
    have xR := xRul
    go_enter Try.func62, Try.ntmps62
    go_wp2_with fail
    refine wp_loop_rounds 4 ?_
    rw [rounds_succ]
    go_wp2_with fail
    with_reducible refine (A0 _ ?hw0).mono ?_
    case hw0 =>
      refine Below.trans hB (Below.mono ?_ hle)
      (with_reducible repeat (first | exact b0 _ | refine bal ?_ _ | refine bdn ?_ _ | refine bdr ?_ | refine bse ?_ _))
    rintro e w1 ⟨rfl, hb⟩
    have HB1 : Below w.heap.size w w1 := by
      refine Below.trans ?_ (hb.mono ?_)
      · exact kb
      · first | omega | (simp <;> omega)
    have zs1 : w.heap.size + 2 < w1.heap.size + 1 := by have := hb.size; (try simp at this); omega
    have c0 : w1.cell? ⟨w.heap.size, 0, none⟩ = some (.int .i64 0) := bce hb
    have c1 : w1.cell? ⟨w.heap.size, 1, none⟩ = some (.int .i64 0) := bce hb
    have c2 : w1.cell? ⟨w.heap.size, 2, none⟩ = some (.int .i64 0) := bce hb
    have c3 : w1.cell? ⟨w.heap.size, 3, none⟩ = some (.int .i64 0) := bce hb
    have c4 : w1.cell? ⟨w.heap.size, 4, none⟩ = some (.int .i64 0) := bce hb
    have c5 : w1.cell? ⟨w.heap.size, 5, none⟩ = some (.int .i64 0) := bce hb
    have cf0 : w1.frozen? ⟨w.heap.size, 0, none⟩ = false := bfz hb
    have cf1 : w1.frozen? ⟨w.heap.size, 1, none⟩ = false := bfz hb
    have cf2 : w1.frozen? ⟨w.heap.size, 2, none⟩ = false := bfz hb
    have cf3 : w1.frozen? ⟨w.heap.size, 3, none⟩ = false := bfz hb
    have cf4 : w1.frozen? ⟨w.heap.size, 4, none⟩ = false := bfz hb
    have cf5 : w1.frozen? ⟨w.heap.size, 5, none⟩ = false := bfz hb
    have r0 : w1.cell? ⟨w.heap.size + 1, 0, none⟩ = some (.int .i64 0) := bce hb
    have r1 : w1.cell? ⟨w.heap.size + 1, 1, none⟩ = some (.int .i64 0) := bce hb
    have r2 : w1.cell? ⟨w.heap.size + 1, 2, none⟩ = some (.int .i64 0) := bce hb
    have r3 : w1.cell? ⟨w.heap.size + 1, 3, none⟩ = some (.int .i64 0) := bce hb
    have r4 : w1.cell? ⟨w.heap.size + 1, 4, none⟩ = some (.int .i64 0) := bce hb
    have r5 : w1.cell? ⟨w.heap.size + 1, 5, none⟩ = some (.int .i64 0) := bce hb
    have rf0 : w1.frozen? ⟨w.heap.size + 1, 0, none⟩ = false := bfz hb
    have rf1 : w1.frozen? ⟨w.heap.size + 1, 1, none⟩ = false := bfz hb
    have rf2 : w1.frozen? ⟨w.heap.size + 1, 2, none⟩ = false := bfz hb
    have rf3 : w1.frozen? ⟨w.heap.size + 1, 3, none⟩ = false := bfz hb
    have rf4 : w1.frozen? ⟨w.heap.size + 1, 4, none⟩ = false := bfz hb
    have rf5 : w1.frozen? ⟨w.heap.size + 1, 5, none⟩ = false := bfz hb
    clear hb
    have zy0_1 : w.heap.size < w1.heap.size := by omega
    have zy1_1 : w.heap.size + 1 < w1.heap.size := by omega
    clear A0
    go_wp2
    refine bodyPost_ret (by simp [results, Try.results62, go_sem, ext_cell, kp, *]; try rfl) rfl ?_
    exact ⟨rfl, kb⟩

end Go.Proofs.Ytmjbeplcabomdaa
