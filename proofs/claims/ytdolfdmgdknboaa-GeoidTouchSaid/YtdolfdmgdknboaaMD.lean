/-
  Package vec: fill with the closure of cross; cross.  P2.2: dot products of package vec.
-/
import Derived.Test.YtdolfdmgdknboaaKu
import Derived.Test.YtdolfdmgdknboaaMC
import Derived.Test.YtdolfdmgdknboaaMB
import Derived.Test.YtdolfdmgdknboaaFz
import Derived.Deep.RegionLaw
import Derived.Deep.DeepCutAuto
namespace Go.Proofs.Ytdolfdmgdknboaa
open Go.RowKit
set_option linter.unusedVariables false
set_option linter.unusedSimpArgs false

set_option maxRecDepth 100000 in
set_option maxHeartbeats 3200000 in
theorem fill_cross (B : Nat) (w0 : World) (p0 p1 : Value) (X0 Y0 E0 X1 Y1 E1 X2 Y2 E2 : Int)
    (A0 : ∀ w, Below B w0 w → Calls Try.prog 122 #[.int .i64 0, p0, p1] w fun e w' => e = .returned (.tuple #[.agg #[.int .i64 X0, .int .i64 Y0], .int .i64 E0]) ∧ Below w.heap.size w w')
    (A1 : ∀ w, Below B w0 w → Calls Try.prog 122 #[.int .i64 1, p0, p1] w fun e w' => e = .returned (.tuple #[.agg #[.int .i64 X1, .int .i64 Y1], .int .i64 E1]) ∧ Below w.heap.size w w')
    (A2 : ∀ w, Below B w0 w → Calls Try.prog 122 #[.int .i64 2, p0, p1] w fun e w' => e = .returned (.tuple #[.agg #[.int .i64 X2, .int .i64 Y2], .int .i64 E2]) ∧ Below w.heap.size w w')
    (w : World) (hB : Below B w0 w) (hle : B ≤ w.heap.size) :
    Calls Try.prog 94 #[.func (.func 122) #[] #[p0, p1]] w fun e w' => e = .returned (.tuple #[.agg #[.int .i64 (vz (fsI E0 E1 E2) X0), .int .i64 (vz (fsI E0 E1 E2) Y0), .int .i64 (vz (fsI E0 E1 E2) X1), .int .i64 (vz (fsI E0 E1 E2) Y1), .int .i64 (vz (fsI E0 E1 E2) X2), .int .i64 (vz (fsI E0 E1 E2) Y2)], .int .i64 (fsI E0 E1 E2)]) ∧ Below w.heap.size w w' := by
  by_cases h0 : E0 = 0
  · subst h0
    by_cases h1 : E1 = 0
    · subst h1
      by_cases h2 : E2 = 0
      · subst h2
        rw [show fsI 0 0 0 = 0 from rfl, vz0, vz0, vz0, vz0, vz0, vz0]
        have dAl := dAl; have dSt := dSt; have xC := ext_cell; have xF := ext_frozen; have xS := ext_set; have xN := ext_drewN; have xD := ext_drew; have xL := ext_lt; have xE := ext_ne; have xG := ext_nr; have xX := ext_ext; have xL1 := ext_lt1; have xL2 := ext_lt2; have xL3 := ext_lt3; have xM0 := ext_le0; have xM1 := ext_le1; have xM2 := ext_le2
        go_enter Try.func94, Try.ntmps94
        go_wp2_with fail
        refine wp_loop_rounds 4 ?_
        rw [rounds_succ]
        go_wp2_with fail
        with_reducible refine (A0 _ ?hw0).mono ?_
        case hw0 =>
          refine Below.trans hB (Below.mono ?_ hle)
          (with_reducible repeat (first | exact b0 _ | refine bal ?_ _ | refine bdn ?_ _ | refine bdr ?_ | refine bse ?_ _))
        rintro e w1 ⟨rfl, hb⟩
        have HB1 : Below w.heap.size w w1 := by
          refine Below.trans ?_ (hb.mono ?_)
          · exact kb
          · first | omega | (simp <;> omega)
        have zs1 : w.heap.size + 2 < w1.heap.size + 1 := by have := hb.size; (try simp at this); omega
        have c0 : w1.cell? ⟨w.heap.size, 0, none⟩ = some (.int .i64 0) := bce hb
        have c1 : w1.cell? ⟨w.heap.size, 1, none⟩ = some (.int .i64 0) := bce hb
        have c2 : w1.cell? ⟨w.heap.size, 2, none⟩ = some (.int .i64 0) := bce hb
        have c3 : w1.cell? ⟨w.heap.size, 3, none⟩ = some (.int .i64 0) := bce hb
        have c4 : w1.cell? ⟨w.heap.size, 4, none⟩ = some (.int .i64 0) := bce hb
        have c5 : w1.cell? ⟨w.heap.size, 5, none⟩ = some (.int .i64 0) := bce hb
        have cf0 : w1.frozen? ⟨w.heap.size, 0, none⟩ = false := bfz hb
        have cf1 : w1.frozen? ⟨w.heap.size, 1, none⟩ = false := bfz hb
        have cf2 : w1.frozen? ⟨w.heap.size, 2, none⟩ = false := bfz hb
        have cf3 : w1.frozen? ⟨w.heap.size, 3, none⟩ = false := bfz hb
        have cf4 : w1.frozen? ⟨w.heap.size, 4, none⟩ = false := bfz hb
        have cf5 : w1.frozen? ⟨w.heap.size, 5, none⟩ = false := bfz hb
        have r0 : w1.cell? ⟨w.heap.size + 1, 0, none⟩ = some (.int .i64 0) := bce hb
        have r1 : w1.cell? ⟨w.heap.size + 1, 1, none⟩ = some (.int .i64 0) := bce hb
        have r2 : w1.cell? ⟨w.heap.size + 1, 2, none⟩ = some (.int .i64 0) := bce hb
        have r3 : w1.cell? ⟨w.heap.size + 1, 3, none⟩ = some (.int .i64 0) := bce hb
        have r4 : w1.cell? ⟨w.heap.size + 1, 4, none⟩ = some (.int .i64 0) := bce hb
        have r5 : w1.cell? ⟨w.heap.size + 1, 5, none⟩ = some (.int .i64 0) := bce hb
        have rf0 : w1.frozen? ⟨w.heap.size + 1, 0, none⟩ = false := bfz hb
        have rf1 : w1.frozen? ⟨w.heap.size + 1, 1, none⟩ = false := bfz hb
        have rf2 : w1.frozen? ⟨w.heap.size + 1, 2, none⟩ = false := bfz hb
        have rf3 : w1.frozen? ⟨w.heap.size + 1, 3, none⟩ = false := bfz hb
        have rf4 : w1.frozen? ⟨w.heap.size + 1, 4, none⟩ = false := bfz hb
        have rf5 : w1.frozen? ⟨w.heap.size + 1, 5, none⟩ = false := bfz hb
        clear hb
        have zy0_1 : w.heap.size < w1.heap.size := by omega
        have zy1_1 : w.heap.size + 1 < w1.heap.size := by omega
        clear A0
        go_wp2_with fail
        rw [rounds_succ]
        go_wp2_with fail
        with_reducible refine (A1 _ ?hw1).mono ?_
        case hw1 =>
          refine Below.trans hB (Below.mono ?_ hle)
          (with_reducible repeat (first | exact HB1 | refine bal ?_ _ | refine bdn ?_ _ | refine bdr ?_ | refine bse ?_ _))
        rintro e w2 ⟨rfl, hb⟩
        have HB2 : Below w.heap.size w w2 := by
          refine Below.trans ?_ (hb.mono ?_)
          · exact kb
          · first | omega | (simp <;> omega)
        have zs2 : w1.heap.size + 0 < w2.heap.size + 1 := by have := hb.size; (try simp at this); omega
        replace c0 : w2.cell? ⟨w.heap.size, 0, none⟩ = some (.int .i64 0) := bce hb
        replace c1 : w2.cell? ⟨w.heap.size, 1, none⟩ = some (.int .i64 0) := bce hb
        replace c2 : w2.cell? ⟨w.heap.size, 2, none⟩ = some (.int .i64 0) := bce hb
        replace c3 : w2.cell? ⟨w.heap.size, 3, none⟩ = some (.int .i64 0) := bce hb
        replace c4 : w2.cell? ⟨w.heap.size, 4, none⟩ = some (.int .i64 0) := bce hb
        replace c5 : w2.cell? ⟨w.heap.size, 5, none⟩ = some (.int .i64 0) := bce hb
        replace cf0 : w2.frozen? ⟨w.heap.size, 0, none⟩ = false := bfz hb
        replace cf1 : w2.frozen? ⟨w.heap.size, 1, none⟩ = false := bfz hb
        replace cf2 : w2.frozen? ⟨w.heap.size, 2, none⟩ = false := bfz hb
        replace cf3 : w2.frozen? ⟨w.heap.size, 3, none⟩ = false := bfz hb
        replace cf4 : w2.frozen? ⟨w.heap.size, 4, none⟩ = false := bfz hb
        replace cf5 : w2.frozen? ⟨w.heap.size, 5, none⟩ = false := bfz hb
        replace r0 : w2.cell? ⟨w.heap.size + 1, 0, none⟩ = some (.int .i64 X0) := bce hb
        replace r1 : w2.cell? ⟨w.heap.size + 1, 1, none⟩ = some (.int .i64 Y0) := bce hb
        replace r2 : w2.cell? ⟨w.heap.size + 1, 2, none⟩ = some (.int .i64 0) := bce hb
        replace r3 : w2.cell? ⟨w.heap.size + 1, 3, none⟩ = some (.int .i64 0) := bce hb
        replace r4 : w2.cell? ⟨w.heap.size + 1, 4, none⟩ = some (.int .i64 0) := bce hb
        replace r5 : w2.cell? ⟨w.heap.size + 1, 5, none⟩ = some (.int .i64 0) := bce hb
        replace rf0 : w2.frozen? ⟨w.heap.size + 1, 0, none⟩ = false := bfz hb
        replace rf1 : w2.frozen? ⟨w.heap.size + 1, 1, none⟩ = false := bfz hb
        replace rf2 : w2.frozen? ⟨w.heap.size + 1, 2, none⟩ = false := bfz hb
        replace rf3 : w2.frozen? ⟨w.heap.size + 1, 3, none⟩ = false := bfz hb
        replace rf4 : w2.frozen? ⟨w.heap.size + 1, 4, none⟩ = false := bfz hb
        replace rf5 : w2.frozen? ⟨w.heap.size + 1, 5, none⟩ = false := bfz hb
        clear hb HB1
        have zy0_2 : w.heap.size < w2.heap.size := by omega
        have zy1_2 : w.heap.size + 1 < w2.heap.size := by omega
        clear A1
        go_wp2_with fail
        rw [rounds_succ]
        go_wp2_with fail
        with_reducible refine (A2 _ ?hw2).mono ?_
        case hw2 =>
          refine Below.trans hB (Below.mono ?_ hle)
          (with_reducible repeat (first | exact HB2 | refine bal ?_ _ | refine bdn ?_ _ | refine bdr ?_ | refine bse ?_ _))
        rintro e w3 ⟨rfl, hb⟩
        have HB3 : Below w.heap.size w w3 := by
          refine Below.trans ?_ (hb.mono ?_)
          · exact kb
          · first | omega | (simp <;> omega)
        have zs3 : w2.heap.size + 0 < w3.heap.size + 1 := by have := hb.size; (try simp at this); omega
        replace c0 : w3.cell? ⟨w.heap.size, 0, none⟩ = some (.int .i64 0) := bce hb
        replace c1 : w3.cell? ⟨w.heap.size, 1, none⟩ = some (.int .i64 0) := bce hb
        replace c2 : w3.cell? ⟨w.heap.size, 2, none⟩ = some (.int .i64 0) := bce hb
        replace c3 : w3.cell? ⟨w.heap.size, 3, none⟩ = some (.int .i64 0) := bce hb
        replace c4 : w3.cell? ⟨w.heap.size, 4, none⟩ = some (.int .i64 0) := bce hb
        replace c5 : w3.cell? ⟨w.heap.size, 5, none⟩ = some (.int .i64 0) := bce hb
        replace cf0 : w3.frozen? ⟨w.heap.size, 0, none⟩ = false := bfz hb
        replace cf1 : w3.frozen? ⟨w.heap.size, 1, none⟩ = false := bfz hb
        replace cf2 : w3.frozen? ⟨w.heap.size, 2, none⟩ = false := bfz hb
        replace cf3 : w3.frozen? ⟨w.heap.size, 3, none⟩ = false := bfz hb
        replace cf4 : w3.frozen? ⟨w.heap.size, 4, none⟩ = false := bfz hb
        replace cf5 : w3.frozen? ⟨w.heap.size, 5, none⟩ = false := bfz hb
        replace r0 : w3.cell? ⟨w.heap.size + 1, 0, none⟩ = some (.int .i64 X0) := bce hb
        replace r1 : w3.cell? ⟨w.heap.size + 1, 1, none⟩ = some (.int .i64 Y0) := bce hb
        replace r2 : w3.cell? ⟨w.heap.size + 1, 2, none⟩ = some (.int .i64 X1) := bce hb
        replace r3 : w3.cell? ⟨w.heap.size + 1, 3, none⟩ = some (.int .i64 Y1) := bce hb
        replace r4 : w3.cell? ⟨w.heap.size + 1, 4, none⟩ = some (.int .i64 0) := bce hb
        replace r5 : w3.cell? ⟨w.heap.size + 1, 5, none⟩ = some (.int .i64 0) := bce hb
        replace rf0 : w3.frozen? ⟨w.heap.size + 1, 0, none⟩ = false := bfz hb
        replace rf1 : w3.frozen? ⟨w.heap.size + 1, 1, none⟩ = false := bfz hb
        replace rf2 : w3.frozen? ⟨w.heap.size + 1, 2, none⟩ = false := bfz hb
        replace rf3 : w3.frozen? ⟨w.heap.size + 1, 3, none⟩ = false := bfz hb
        replace rf4 : w3.frozen? ⟨w.heap.size + 1, 4, none⟩ = false := bfz hb
        replace rf5 : w3.frozen? ⟨w.heap.size + 1, 5, none⟩ = false := bfz hb
        clear hb HB2
        have zy0_3 : w.heap.size < w3.heap.size := by omega
        have zy1_3 : w.heap.size + 1 < w3.heap.size := by omega
        clear A2
        go_wp2_with fail
        rw [rounds_succ]
        go_wp2
        refine bodyPost_ret (by simp [results, Try.results94, go_sem, ext_cell, kp, *]; try rfl) rfl ?_
        exact ⟨rfl, kb⟩
      · rw [show fsI 0 0 E2 = E2 from rfl, vzn h2, vzn h2, vzn h2, vzn h2, vzn h2, vzn h2]
        have e2 : (E2 == 0) = false := by simp [h2]
        clear h2
        have dAl := dAl; have dSt := dSt; have xC := ext_cell; have xF := ext_frozen; have xS := ext_set; have xN := ext_drewN; have xD := ext_drew; have xL := ext_lt; have xE := ext_ne; have xG := ext_nr; have xX := ext_ext; have xL1 := ext_lt1; have xL2 := ext_lt2; have xL3 := ext_lt3; have xM0 := ext_le0; have xM1 := ext_le1; have xM2 := ext_le2
        go_enter Try.func94, Try.ntmps94
        go_wp2_with fail
        refine wp_loop_rounds 4 ?_
        rw [rounds_succ]
        go_wp2_with fail
        with_reducible refine (A0 _ ?hw0).mono ?_
        case hw0 =>
          refine Below.trans hB (Below.mono ?_ hle)
          (with_reducible repeat (first | exact b0 _ | refine bal ?_ _ | refine bdn ?_ _ | refine bdr ?_ | refine bse ?_ _))
        rintro e w1 ⟨rfl, hb⟩
        have HB1 : Below w.heap.size w w1 := by
          refine Below.trans ?_ (hb.mono ?_)
          · exact kb
          · first | omega | (simp <;> omega)
        have zs1 : w.heap.size + 2 < w1.heap.size + 1 := by have := hb.size; (try simp at this); omega
        have c0 : w1.cell? ⟨w.heap.size, 0, none⟩ = some (.int .i64 0) := bce hb
        have c1 : w1.cell? ⟨w.heap.size, 1, none⟩ = some (.int .i64 0) := bce hb
        have c2 : w1.cell? ⟨w.heap.size, 2, none⟩ = some (.int .i64 0) := bce hb
        have c3 : w1.cell? ⟨w.heap.size, 3, none⟩ = some (.int .i64 0) := bce hb
        have c4 : w1.cell? ⟨w.heap.size, 4, none⟩ = some (.int .i64 0) := bce hb
        have c5 : w1.cell? ⟨w.heap.size, 5, none⟩ = some (.int .i64 0) := bce hb
        have cf0 : w1.frozen? ⟨w.heap.size, 0, none⟩ = false := bfz hb
        have cf1 : w1.frozen? ⟨w.heap.size, 1, none⟩ = false := bfz hb
        have cf2 : w1.frozen? ⟨w.heap.size, 2, none⟩ = false := bfz hb
        have cf3 : w1.frozen? ⟨w.heap.size, 3, none⟩ = false := bfz hb
        have cf4 : w1.frozen? ⟨w.heap.size, 4, none⟩ = false := bfz hb
        have cf5 : w1.frozen? ⟨w.heap.size, 5, none⟩ = false := bfz hb
        have r0 : w1.cell? ⟨w.heap.size + 1, 0, none⟩ = some (.int .i64 0) := bce hb
        have r1 : w1.cell? ⟨w.heap.size + 1, 1, none⟩ = some (.int .i64 0) := bce hb
        have r2 : w1.cell? ⟨w.heap.size + 1, 2, none⟩ = some (.int .i64 0) := bce hb
        have r3 : w1.cell? ⟨w.heap.size + 1, 3, none⟩ = some (.int .i64 0) := bce hb
        have r4 : w1.cell? ⟨w.heap.size + 1, 4, none⟩ = some (.int .i64 0) := bce hb
        have r5 : w1.cell? ⟨w.heap.size + 1, 5, none⟩ = some (.int .i64 0) := bce hb
        have rf0 : w1.frozen? ⟨w.heap.size + 1, 0, none⟩ = false := bfz hb
        have rf1 : w1.frozen? ⟨w.heap.size + 1, 1, none⟩ = false := bfz hb
        have rf2 : w1.frozen? ⟨w.heap.size + 1, 2, none⟩ = false := bfz hb
        have rf3 : w1.frozen? ⟨w.heap.size + 1, 3, none⟩ = false := bfz hb
        have rf4 : w1.frozen? ⟨w.heap.size + 1, 4, none⟩ = false := bfz hb
        have rf5 : w1.frozen? ⟨w.heap.size + 1, 5, none⟩ = false := bfz hb
        clear hb
        have zy0_1 : w.heap.size < w1.heap.size := by omega
        have zy1_1 : w.heap.size + 1 < w1.heap.size := by omega
        clear A0
        go_wp2_with fail
        rw [rounds_succ]
        go_wp2_with fail
        with_reducible refine (A1 _ ?hw1).mono ?_
        case hw1 =>
          refine Below.trans hB (Below.mono ?_ hle)
          (with_reducible repeat (first | exact HB1 | refine bal ?_ _ | refine bdn ?_ _ | refine bdr ?_ | refine bse ?_ _))
        rintro e w2 ⟨rfl, hb⟩
        have HB2 : Below w.heap.size w w2 := by
          refine Below.trans ?_ (hb.mono ?_)
          · exact kb
          · first | omega | (simp <;> omega)
        have zs2 : w1.heap.size + 0 < w2.heap.size + 1 := by have := hb.size; (try simp at this); omega
        replace c0 : w2.cell? ⟨w.heap.size, 0, none⟩ = some (.int .i64 0) := bce hb
        replace c1 : w2.cell? ⟨w.heap.size, 1, none⟩ = some (.int .i64 0) := bce hb
        replace c2 : w2.cell? ⟨w.heap.size, 2, none⟩ = some (.int .i64 0) := bce hb
        replace c3 : w2.cell? ⟨w.heap.size, 3, none⟩ = some (.int .i64 0) := bce hb
        replace c4 : w2.cell? ⟨w.heap.size, 4, none⟩ = some (.int .i64 0) := bce hb
        replace c5 : w2.cell? ⟨w.heap.size, 5, none⟩ = some (.int .i64 0) := bce hb
        replace cf0 : w2.frozen? ⟨w.heap.size, 0, none⟩ = false := bfz hb
        replace cf1 : w2.frozen? ⟨w.heap.size, 1, none⟩ = false := bfz hb
        replace cf2 : w2.frozen? ⟨w.heap.size, 2, none⟩ = false := bfz hb
        replace cf3 : w2.frozen? ⟨w.heap.size, 3, none⟩ = false := bfz hb
        replace cf4 : w2.frozen? ⟨w.heap.size, 4, none⟩ = false := bfz hb
        replace cf5 : w2.frozen? ⟨w.heap.size, 5, none⟩ = false := bfz hb
        replace r0 : w2.cell? ⟨w.heap.size + 1, 0, none⟩ = some (.int .i64 X0) := bce hb
        replace r1 : w2.cell? ⟨w.heap.size + 1, 1, none⟩ = some (.int .i64 Y0) := bce hb
        replace r2 : w2.cell? ⟨w.heap.size + 1, 2, none⟩ = some (.int .i64 0) := bce hb
        replace r3 : w2.cell? ⟨w.heap.size + 1, 3, none⟩ = some (.int .i64 0) := bce hb
        replace r4 : w2.cell? ⟨w.heap.size + 1, 4, none⟩ = some (.int .i64 0) := bce hb
        replace r5 : w2.cell? ⟨w.heap.size + 1, 5, none⟩ = some (.int .i64 0) := bce hb
        replace rf0 : w2.frozen? ⟨w.heap.size + 1, 0, none⟩ = false := bfz hb
        replace rf1 : w2.frozen? ⟨w.heap.size + 1, 1, none⟩ = false := bfz hb
        replace rf2 : w2.frozen? ⟨w.heap.size + 1, 2, none⟩ = false := bfz hb
        replace rf3 : w2.frozen? ⟨w.heap.size + 1, 3, none⟩ = false := bfz hb
        replace rf4 : w2.frozen? ⟨w.heap.size + 1, 4, none⟩ = false := bfz hb
        replace rf5 : w2.frozen? ⟨w.heap.size + 1, 5, none⟩ = false := bfz hb
        clear hb HB1
        have zy0_2 : w.heap.size < w2.heap.size := by omega
        have zy1_2 : w.heap.size + 1 < w2.heap.size := by omega
        clear A1
        go_wp2_with fail
        rw [rounds_succ]
        go_wp2_with fail
        with_reducible refine (A2 _ ?hw2).mono ?_
        case hw2 =>
          refine Below.trans hB (Below.mono ?_ hle)
          (with_reducible repeat (first | exact HB2 | refine bal ?_ _ | refine bdn ?_ _ | refine bdr ?_ | refine bse ?_ _))
        rintro e w3 ⟨rfl, hb⟩
        have HB3 : Below w.heap.size w w3 := by
          refine Below.trans ?_ (hb.mono ?_)
          · exact kb
          · first | omega | (simp <;> omega)
        have zs3 : w2.heap.size + 0 < w3.heap.size + 1 := by have := hb.size; (try simp at this); omega
        replace c0 : w3.cell? ⟨w.heap.size, 0, none⟩ = some (.int .i64 0) := bce hb
        replace c1 : w3.cell? ⟨w.heap.size, 1, none⟩ = some (.int .i64 0) := bce hb
        replace c2 : w3.cell? ⟨w.heap.size, 2, none⟩ = some (.int .i64 0) := bce hb
        replace c3 : w3.cell? ⟨w.heap.size, 3, none⟩ = some (.int .i64 0) := bce hb
        replace c4 : w3.cell? ⟨w.heap.size, 4, none⟩ = some (.int .i64 0) := bce hb
        replace c5 : w3.cell? ⟨w.heap.size, 5, none⟩ = some (.int .i64 0) := bce hb
        replace cf0 : w3.frozen? ⟨w.heap.size, 0, none⟩ = false := bfz hb
        replace cf1 : w3.frozen? ⟨w.heap.size, 1, none⟩ = false := bfz hb
        replace cf2 : w3.frozen? ⟨w.heap.size, 2, none⟩ = false := bfz hb
        replace cf3 : w3.frozen? ⟨w.heap.size, 3, none⟩ = false := bfz hb
        replace cf4 : w3.frozen? ⟨w.heap.size, 4, none⟩ = false := bfz hb
        replace cf5 : w3.frozen? ⟨w.heap.size, 5, none⟩ = false := bfz hb
        replace r0 : w3.cell? ⟨w.heap.size + 1, 0, none⟩ = some (.int .i64 X0) := bce hb
        replace r1 : w3.cell? ⟨w.heap.size + 1, 1, none⟩ = some (.int .i64 Y0) := bce hb
        replace r2 : w3.cell? ⟨w.heap.size + 1, 2, none⟩ = some (.int .i64 X1) := bce hb
        replace r3 : w3.cell? ⟨w.heap.size + 1, 3, none⟩ = some (.int .i64 Y1) := bce hb
        replace r4 : w3.cell? ⟨w.heap.size + 1, 4, none⟩ = some (.int .i64 0) := bce hb
        replace r5 : w3.cell? ⟨w.heap.size + 1, 5, none⟩ = some (.int .i64 0) := bce hb
        replace rf0 : w3.frozen? ⟨w.heap.size + 1, 0, none⟩ = false := bfz hb
        replace rf1 : w3.frozen? ⟨w.heap.size + 1, 1, none⟩ = false := bfz hb
        replace rf2 : w3.frozen? ⟨w.heap.size + 1, 2, none⟩ = false := bfz hb
        replace rf3 : w3.frozen? ⟨w.heap.size + 1, 3, none⟩ = false := bfz hb
        replace rf4 : w3.frozen? ⟨w.heap.size + 1, 4, none⟩ = false := bfz hb
        replace rf5 : w3.frozen? ⟨w.heap.size + 1, 5, none⟩ = false := bfz hb
        clear hb HB2
        have zy0_3 : w.heap.size < w3.heap.size := by omega
        have zy1_3 : w.heap.size + 1 < w3.heap.size := by omega
        clear A2
        go_wp2
        refine bodyPost_ret (by simp [results, Try.results94, go_sem, ext_cell, kp, *]; try rfl) rfl ?_
        exact ⟨rfl, kb⟩
    · rw [show fsI 0 E1 E2 = E1 by unfold fsI; rw [if_pos rfl, if_neg h1], vzn h1, vzn h1, vzn h1, vzn h1, vzn h1, vzn h1]
      have e1 : (E1 == 0) = false := by simp [h1]
      clear h1 A2
      have dAl := dAl; have dSt := dSt; have xC := ext_cell; have xF := ext_frozen; have xS := ext_set; have xN := ext_drewN; have xD := ext_drew; have xL := ext_lt; have xE := ext_ne; have xG := ext_nr; have xX := ext_ext; have xL1 := ext_lt1; have xL2 := ext_lt2; have xL3 := ext_lt3; have xM0 := ext_le0; have xM1 := ext_le1; have xM2 := ext_le2
      go_enter Try.func94, Try.ntmps94
      go_wp2_with fail
      refine wp_loop_rounds 4 ?_
      rw [rounds_succ]
      go_wp2_with fail
      with_reducible refine (A0 _ ?hw0).mono ?_
      case hw0 =>
        refine Below.trans hB (Below.mono ?_ hle)
        (with_reducible repeat (first | exact b0 _ | refine bal ?_ _ | refine bdn ?_ _ | refine bdr ?_ | refine bse ?_ _))
      rintro e w1 ⟨rfl, hb⟩
      have HB1 : Below w.heap.size w w1 := by
        refine Below.trans ?_ (hb.mono ?_)
        · exact kb
        · first | omega | (simp <;> omega)
      have zs1 : w.heap.size + 2 < w1.heap.size + 1 := by have := hb.size; (try simp at this); omega
      have c0 : w1.cell? ⟨w.heap.size, 0, none⟩ = some (.int .i64 0) := bce hb
      have c1 : w1.cell? ⟨w.heap.size, 1, none⟩ = some (.int .i64 0) := bce hb
      have c2 : w1.cell? ⟨w.heap.size, 2, none⟩ = some (.int .i64 0) := bce hb
      have c3 : w1.cell? ⟨w.heap.size, 3, none⟩ = some (.int .i64 0) := bce hb
      have c4 : w1.cell? ⟨w.heap.size, 4, none⟩ = some (.int .i64 0) := bce hb
      have c5 : w1.cell? ⟨w.heap.size, 5, none⟩ = some (.int .i64 0) := bce hb
      have cf0 : w1.frozen? ⟨w.heap.size, 0, none⟩ = false := bfz hb
      have cf1 : w1.frozen? ⟨w.heap.size, 1, none⟩ = false := bfz hb
      have cf2 : w1.frozen? ⟨w.heap.size, 2, none⟩ = false := bfz hb
      have cf3 : w1.frozen? ⟨w.heap.size, 3, none⟩ = false := bfz hb
      have cf4 : w1.frozen? ⟨w.heap.size, 4, none⟩ = false := bfz hb
      have cf5 : w1.frozen? ⟨w.heap.size, 5, none⟩ = false := bfz hb
      have r0 : w1.cell? ⟨w.heap.size + 1, 0, none⟩ = some (.int .i64 0) := bce hb
      have r1 : w1.cell? ⟨w.heap.size + 1, 1, none⟩ = some (.int .i64 0) := bce hb
      have r2 : w1.cell? ⟨w.heap.size + 1, 2, none⟩ = some (.int .i64 0) := bce hb
      have r3 : w1.cell? ⟨w.heap.size + 1, 3, none⟩ = some (.int .i64 0) := bce hb
      have r4 : w1.cell? ⟨w.heap.size + 1, 4, none⟩ = some (.int .i64 0) := bce hb
      have r5 : w1.cell? ⟨w.heap.size + 1, 5, none⟩ = some (.int .i64 0) := bce hb
      have rf0 : w1.frozen? ⟨w.heap.size + 1, 0, none⟩ = false := bfz hb
      have rf1 : w1.frozen? ⟨w.heap.size + 1, 1, none⟩ = false := bfz hb
      have rf2 : w1.frozen? ⟨w.heap.size + 1, 2, none⟩ = false := bfz hb
      have rf3 : w1.frozen? ⟨w.heap.size + 1, 3, none⟩ = false := bfz hb
      have rf4 : w1.frozen? ⟨w.heap.size + 1, 4, none⟩ = false := bfz hb
      have rf5 : w1.frozen? ⟨w.heap.size + 1, 5, none⟩ = false := bfz hb
      clear hb
      have zy0_1 : w.heap.size < w1.heap.size := by omega
      have zy1_1 : w.heap.size + 1 < w1.heap.size := by omega
      clear A0
      go_wp2_with fail
      rw [rounds_succ]
      go_wp2_with fail
      with_reducible refine (A1 _ ?hw1).mono ?_
      case hw1 =>
        refine Below.trans hB (Below.mono ?_ hle)
        (with_reducible repeat (first | exact HB1 | refine bal ?_ _ | refine bdn ?_ _ | refine bdr ?_ | refine bse ?_ _))
      rintro e w2 ⟨rfl, hb⟩
      have HB2 : Below w.heap.size w w2 := by
        refine Below.trans ?_ (hb.mono ?_)
        · exact kb
        · first | omega | (simp <;> omega)
      have zs2 : w1.heap.size + 0 < w2.heap.size + 1 := by have := hb.size; (try simp at this); omega
      replace c0 : w2.cell? ⟨w.heap.size, 0, none⟩ = some (.int .i64 0) := bce hb
      replace c1 : w2.cell? ⟨w.heap.size, 1, none⟩ = some (.int .i64 0) := bce hb
      replace c2 : w2.cell? ⟨w.heap.size, 2, none⟩ = some (.int .i64 0) := bce hb
      replace c3 : w2.cell? ⟨w.heap.size, 3, none⟩ = some (.int .i64 0) := bce hb
      replace c4 : w2.cell? ⟨w.heap.size, 4, none⟩ = some (.int .i64 0) := bce hb
      replace c5 : w2.cell? ⟨w.heap.size, 5, none⟩ = some (.int .i64 0) := bce hb
      replace cf0 : w2.frozen? ⟨w.heap.size, 0, none⟩ = false := bfz hb
      replace cf1 : w2.frozen? ⟨w.heap.size, 1, none⟩ = false := bfz hb
      replace cf2 : w2.frozen? ⟨w.heap.size, 2, none⟩ = false := bfz hb
      replace cf3 : w2.frozen? ⟨w.heap.size, 3, none⟩ = false := bfz hb
      replace cf4 : w2.frozen? ⟨w.heap.size, 4, none⟩ = false := bfz hb
      replace cf5 : w2.frozen? ⟨w.heap.size, 5, none⟩ = false := bfz hb
      replace r0 : w2.cell? ⟨w.heap.size + 1, 0, none⟩ = some (.int .i64 X0) := bce hb
      replace r1 : w2.cell? ⟨w.heap.size + 1, 1, none⟩ = some (.int .i64 Y0) := bce hb
      replace r2 : w2.cell? ⟨w.heap.size + 1, 2, none⟩ = some (.int .i64 0) := bce hb
      replace r3 : w2.cell? ⟨w.heap.size + 1, 3, none⟩ = some (.int .i64 0) := bce hb
      replace r4 : w2.cell? ⟨w.heap.size + 1, 4, none⟩ = some (.int .i64 0) := bce hb
      replace r5 : w2.cell? ⟨w.heap.size + 1, 5, none⟩ = some (.int .i64 0) := bce hb
      replace rf0 : w2.frozen? ⟨w.heap.size + 1, 0, none⟩ = false := bfz hb
      replace rf1 : w2.frozen? ⟨w.heap.size + 1, 1, none⟩ = false := bfz hb
      replace rf2 : w2.frozen? ⟨w.heap.size + 1, 2, none⟩ = false := bfz hb
      replace rf3 : w2.frozen? ⟨w.heap.size + 1, 3, none⟩ = false := bfz hb
      replace rf4 : w2.frozen? ⟨w.heap.size + 1, 4, none⟩ = false := bfz hb
      replace rf5 : w2.frozen? ⟨w.heap.size + 1, 5, none⟩ = false := bfz hb
      clear hb HB1
      have zy0_2 : w.heap.size < w2.heap.size := by omega
      have zy1_2 : w.heap.size + 1 < w2.heap.size := by omega
      clear A1
      go_wp2
      refine bodyPost_ret (by simp [results, Try.results94, go_sem, ext_cell, kp, *]; try rfl) rfl ?_
      exact ⟨rfl, kb⟩
  · rw [show fsI E0 E1 E2 = E0 by unfold fsI; rw [if_neg h0], vzn h0, vzn h0, vzn h0, vzn h0, vzn h0, vzn h0]
    have e0 : (E0 == 0) = false := by simp [h0]
    clear h0 A1 A2
    have dAl := dAl; have dSt := dSt; have xC := ext_cell; have xF := ext_frozen; have xS := ext_set; have xN := ext_drewN; have xD := ext_drew; have xL := ext_lt; have xE := ext_ne; have xG := ext_nr; have xX := ext_ext; have xL1 := ext_lt1; have xL2 := ext_lt2; have xL3 := ext_lt3; have xM0 := ext_le0; have xM1 := ext_le1; have xM2 := ext_le2
    go_enter Try.func94, Try.ntmps94
    go_wp2_with fail
    refine wp_loop_rounds 4 ?_
    rw [rounds_succ]
    go_wp2_with fail
    with_reducible refine (A0 _ ?hw0).mono ?_
    case hw0 =>
      refine Below.trans hB (Below.mono ?_ hle)
      (with_reducible repeat (first | exact b0 _ | refine bal ?_ _ | refine bdn ?_ _ | refine bdr ?_ | refine bse ?_ _))
    rintro e w1 ⟨rfl, hb⟩
    have HB1 : Below w.heap.size w w1 := by
      refine Below.trans ?_ (hb.mono ?_)
      · exact kb
      · first | omega | (simp <;> omega)
    have zs1 : w.heap.size + 2 < w1.heap.size + 1 := by have := hb.size; (try simp at this); omega
    have c0 : w1.cell? ⟨w.heap.size, 0, none⟩ = some (.int .i64 0) := bce hb
    have c1 : w1.cell? ⟨w.heap.size, 1, none⟩ = some (.int .i64 0) := bce hb
    have c2 : w1.cell? ⟨w.heap.size, 2, none⟩ = some (.int .i64 0) := bce hb
    have c3 : w1.cell? ⟨w.heap.size, 3, none⟩ = some (.int .i64 0) := bce hb
    have c4 : w1.cell? ⟨w.heap.size, 4, none⟩ = some (.int .i64 0) := bce hb
    have c5 : w1.cell? ⟨w.heap.size, 5, none⟩ = some (.int .i64 0) := bce hb
    have cf0 : w1.frozen? ⟨w.heap.size, 0, none⟩ = false := bfz hb
    have cf1 : w1.frozen? ⟨w.heap.size, 1, none⟩ = false := bfz hb
    have cf2 : w1.frozen? ⟨w.heap.size, 2, none⟩ = false := bfz hb
    have cf3 : w1.frozen? ⟨w.heap.size, 3, none⟩ = false := bfz hb
    have cf4 : w1.frozen? ⟨w.heap.size, 4, none⟩ = false := bfz hb
    have cf5 : w1.frozen? ⟨w.heap.size, 5, none⟩ = false := bfz hb
    have r0 : w1.cell? ⟨w.heap.size + 1, 0, none⟩ = some (.int .i64 0) := bce hb
    have r1 : w1.cell? ⟨w.heap.size + 1, 1, none⟩ = some (.int .i64 0) := bce hb
    have r2 : w1.cell? ⟨w.heap.size + 1, 2, none⟩ = some (.int .i64 0) := bce hb
    have r3 : w1.cell? ⟨w.heap.size + 1, 3, none⟩ = some (.int .i64 0) := bce hb
    have r4 : w1.cell? ⟨w.heap.size + 1, 4, none⟩ = some (.int .i64 0) := bce hb
    have r5 : w1.cell? ⟨w.heap.size + 1, 5, none⟩ = some (.int .i64 0) := bce hb
    have rf0 : w1.frozen? ⟨w.heap.size + 1, 0, none⟩ = false := bfz hb
    have rf1 : w1.frozen? ⟨w.heap.size + 1, 1, none⟩ = false := bfz hb
    have rf2 : w1.frozen? ⟨w.heap.size + 1, 2, none⟩ = false := bfz hb
    have rf3 : w1.frozen? ⟨w.heap.size + 1, 3, none⟩ = false := bfz hb
    have rf4 : w1.frozen? ⟨w.heap.size + 1, 4, none⟩ = false := bfz hb
    have rf5 : w1.frozen? ⟨w.heap.size + 1, 5, none⟩ = false := bfz hb
    clear hb
    have zy0_1 : w.heap.size < w1.heap.size := by omega
    have zy1_1 : w.heap.size + 1 < w1.heap.size := by omega
    clear A0
    go_wp2
    refine bodyPost_ret (by simp [results, Try.results94, go_sem, ext_cell, kp, *]; try rfl) rfl ?_
    exact ⟨rfl, kb⟩

set_option maxRecDepth 100000 in
set_option maxHeartbeats 1600000 in
theorem vec_cross (a b c d e f g h i j k l : Int) (o1 : okV a b c d e f = true) (o2 : okV g h i j k l = true) (w : World) :
    Calls Try.prog 99 #[.agg #[.int .i64 a, .int .i64 b, .int .i64 c, .int .i64 d, .int .i64 e, .int .i64 f], .agg #[.int .i64 g, .int .i64 h, .int .i64 i, .int .i64 j, .int .i64 k, .int .i64 l]] w fun x w' => x = .returned (.tuple #[.agg #[.int .i64 (vz (fsI (twE c d k l (-e) f i j) (twE e f g h (-a) b k l) (twE a b i j (-c) d g h)) (twN c d k l (-e) f i j)), .int .i64 (vz (fsI (twE c d k l (-e) f i j) (twE e f g h (-a) b k l) (twE a b i j (-c) d g h)) (twD c d k l (-e) f i j)), .int .i64 (vz (fsI (twE c d k l (-e) f i j) (twE e f g h (-a) b k l) (twE a b i j (-c) d g h)) (twN e f g h (-a) b k l)), .int .i64 (vz (fsI (twE c d k l (-e) f i j) (twE e f g h (-a) b k l) (twE a b i j (-c) d g h)) (twD e f g h (-a) b k l)), .int .i64 (vz (fsI (twE c d k l (-e) f i j) (twE e f g h (-a) b k l) (twE a b i j (-c) d g h)) (twN a b i j (-c) d g h)), .int .i64 (vz (fsI (twE c d k l (-e) f i j) (twE e f g h (-a) b k l) (twE a b i j (-c) d g h)) (twD a b i j (-c) d g h))], .int .i64 (fsI (twE c d k l (-e) f i j) (twE e f g h (-a) b k l) (twE a b i j (-c) d g h))]) ∧ Below w.heap.size w w' := by
  obtain ⟨u1, u2, u3⟩ := okV_in o1
  obtain ⟨v1, v2, v3⟩ := okV_in o2
  have K0 := fun gv gw w => cross_clo0 gv gw c d e f i j k l u2 u3 v2 v3 w
  have K1 := fun gv gw w => cross_clo1 gv gw e f a b k l g h u3 u1 v3 v1 w
  have K2 := fun gv gw w => cross_clo2 gv gw a b c d g h i j u1 u2 v1 v2 w
  clear u1 u2 u3 v1 v2 v3 o1 o2
  generalize twN c d k l (-e) f i j = x1 at *
  generalize twD c d k l (-e) f i j = x2 at *
  generalize twE c d k l (-e) f i j = x3 at *
  generalize twN e f g h (-a) b k l = y1 at *
  generalize twD e f g h (-a) b k l = y2 at *
  generalize twE e f g h (-a) b k l = y3 at *
  generalize twN a b i j (-c) d g h = z1 at *
  generalize twD a b i j (-c) d g h = z2 at *
  generalize twE a b i j (-c) d g h = z3 at *
  have H0 := Lib.hid K0
  have H1 := Lib.hid K1
  have H2 := Lib.hid K2
  clear K0 K1 K2
  have dAl := dAl; have dSt := dSt; have xC := ext_cell; have xF := ext_frozen; have xS := ext_set; have xN := ext_drewN; have xD := ext_drew; have xL := ext_lt; have xE := ext_ne; have xG := ext_nr; have xX := ext_ext; have xL1 := ext_lt1; have xL2 := ext_lt2; have xL3 := ext_lt3; have xM0 := ext_le0; have xM1 := ext_le1; have xM2 := ext_le2
  go_enter Try.func99, Try.ntmps99
  go_wp2_with fail
  obtain ⟨wa, hW⟩ : ∃ wa, wa = (((w.alloc (.cells #[.int .i64 a, .int .i64 b, .int .i64 c, .int .i64 d, .int .i64 e, .int .i64 f] 24)).alloc (.cells #[.int .i64 g, .int .i64 h, .int .i64 i, .int .i64 j, .int .i64 k, .int .i64 l] 24)).alloc (.cells #[.int .i64 0, .int .i64 0, .int .i64 0, .int .i64 0, .int .i64 0, .int .i64 0] 24)) := ⟨_, rfl⟩
  rw [← hW]
  have ka0 : wa.cell? ⟨w.heap.size, 0, none⟩ = some (.int .i64 a) := by rw [hW]; (simp (maxDischargeDepth := 8) [go_sem, kp, *])
  have ka1 : wa.cell? ⟨w.heap.size, 1, none⟩ = some (.int .i64 b) := by rw [hW]; (simp (maxDischargeDepth := 8) [go_sem, kp, *])
  have ka2 : wa.cell? ⟨w.heap.size, 2, none⟩ = some (.int .i64 c) := by rw [hW]; (simp (maxDischargeDepth := 8) [go_sem, kp, *])
  have ka3 : wa.cell? ⟨w.heap.size, 3, none⟩ = some (.int .i64 d) := by rw [hW]; (simp (maxDischargeDepth := 8) [go_sem, kp, *])
  have ka4 : wa.cell? ⟨w.heap.size, 4, none⟩ = some (.int .i64 e) := by rw [hW]; (simp (maxDischargeDepth := 8) [go_sem, kp, *])
  have ka5 : wa.cell? ⟨w.heap.size, 5, none⟩ = some (.int .i64 f) := by rw [hW]; (simp (maxDischargeDepth := 8) [go_sem, kp, *])
  have kb0 : wa.cell? ⟨w.heap.size + 1, 0, none⟩ = some (.int .i64 g) := by rw [hW]; (simp (maxDischargeDepth := 8) [go_sem, kp, *])
  have kb1 : wa.cell? ⟨w.heap.size + 1, 1, none⟩ = some (.int .i64 h) := by rw [hW]; (simp (maxDischargeDepth := 8) [go_sem, kp, *])
  have kb2 : wa.cell? ⟨w.heap.size + 1, 2, none⟩ = some (.int .i64 i) := by rw [hW]; (simp (maxDischargeDepth := 8) [go_sem, kp, *])
  have kb3 : wa.cell? ⟨w.heap.size + 1, 3, none⟩ = some (.int .i64 j) := by rw [hW]; (simp (maxDischargeDepth := 8) [go_sem, kp, *])
  have kb4 : wa.cell? ⟨w.heap.size + 1, 4, none⟩ = some (.int .i64 k) := by rw [hW]; (simp (maxDischargeDepth := 8) [go_sem, kp, *])
  have kb5 : wa.cell? ⟨w.heap.size + 1, 5, none⟩ = some (.int .i64 l) := by rw [hW]; (simp (maxDischargeDepth := 8) [go_sem, kp, *])
  have kd0 : wa.cell? ⟨w.heap.size + 1 + 1, 0, none⟩ = some (.int .i64 0) := by rw [hW]; (simp (maxDischargeDepth := 8) [go_sem, kp, *])
  have kd1 : wa.cell? ⟨w.heap.size + 1 + 1, 1, none⟩ = some (.int .i64 0) := by rw [hW]; (simp (maxDischargeDepth := 8) [go_sem, kp, *])
  have kd2 : wa.cell? ⟨w.heap.size + 1 + 1, 2, none⟩ = some (.int .i64 0) := by rw [hW]; (simp (maxDischargeDepth := 8) [go_sem, kp, *])
  have kd3 : wa.cell? ⟨w.heap.size + 1 + 1, 3, none⟩ = some (.int .i64 0) := by rw [hW]; (simp (maxDischargeDepth := 8) [go_sem, kp, *])
  have kd4 : wa.cell? ⟨w.heap.size + 1 + 1, 4, none⟩ = some (.int .i64 0) := by rw [hW]; (simp (maxDischargeDepth := 8) [go_sem, kp, *])
  have kd5 : wa.cell? ⟨w.heap.size + 1 + 1, 5, none⟩ = some (.int .i64 0) := by rw [hW]; (simp (maxDischargeDepth := 8) [go_sem, kp, *])
  have ke0 : wa.frozen? ⟨w.heap.size + 1 + 1, 0, none⟩ = false := by rw [hW]; (simp (maxDischargeDepth := 8) [go_sem, kp, *])
  have ke1 : wa.frozen? ⟨w.heap.size + 1 + 1, 1, none⟩ = false := by rw [hW]; (simp (maxDischargeDepth := 8) [go_sem, kp, *])
  have ke2 : wa.frozen? ⟨w.heap.size + 1 + 1, 2, none⟩ = false := by rw [hW]; (simp (maxDischargeDepth := 8) [go_sem, kp, *])
  have ke3 : wa.frozen? ⟨w.heap.size + 1 + 1, 3, none⟩ = false := by rw [hW]; (simp (maxDischargeDepth := 8) [go_sem, kp, *])
  have ke4 : wa.frozen? ⟨w.heap.size + 1 + 1, 4, none⟩ = false := by rw [hW]; (simp (maxDischargeDepth := 8) [go_sem, kp, *])
  have ke5 : wa.frozen? ⟨w.heap.size + 1 + 1, 5, none⟩ = false := by rw [hW]; (simp (maxDischargeDepth := 8) [go_sem, kp, *])
  have HBa : Below w.heap.size w wa := by rw [hW]; (with_reducible repeat (first | exact b0 _ | refine bext ?_ _ _ | refine bdn ?_ _ | refine bdr ?_ | refine bal ?_ _))
  have za : wa.heap.size = w.heap.size + 1 + 1 + 1 := by rw [hW]; simp
  have za0 : w.heap.size < wa.heap.size := by omega
  have za1 : w.heap.size + 1 < wa.heap.size := by omega
  have za2 : w.heap.size + 1 + 1 < wa.heap.size := by omega
  clear hW za
  have G0 : ∀ W, Below wa.heap.size wa W → Calls Try.prog 122 #[.int .i64 0, .pointer (some ⟨w.heap.size, 0, none⟩), .pointer (some ⟨w.heap.size + 1, 0, none⟩)] W fun e w' => e = .returned (.tuple #[.agg #[.int .i64 x1, .int .i64 x2], .int .i64 x3]) ∧ Below W.heap.size W w' := fun W hW =>
    H0.out _ _ W (Nat.lt_of_lt_of_le za0 hW.size) (Nat.lt_of_lt_of_le za1 hW.size) ((hW.cell za0).trans ka2) ((hW.cell za0).trans ka3) ((hW.cell za0).trans ka4) ((hW.cell za0).trans ka5) ((hW.cell za1).trans kb2) ((hW.cell za1).trans kb3) ((hW.cell za1).trans kb4) ((hW.cell za1).trans kb5)
  have G1 : ∀ W, Below wa.heap.size wa W → Calls Try.prog 122 #[.int .i64 1, .pointer (some ⟨w.heap.size, 0, none⟩), .pointer (some ⟨w.heap.size + 1, 0, none⟩)] W fun e w' => e = .returned (.tuple #[.agg #[.int .i64 y1, .int .i64 y2], .int .i64 y3]) ∧ Below W.heap.size W w' := fun W hW =>
    H1.out _ _ W (Nat.lt_of_lt_of_le za0 hW.size) (Nat.lt_of_lt_of_le za1 hW.size) ((hW.cell za0).trans ka4) ((hW.cell za0).trans ka5) ((hW.cell za0).trans ka0) ((hW.cell za0).trans ka1) ((hW.cell za1).trans kb4) ((hW.cell za1).trans kb5) ((hW.cell za1).trans kb0) ((hW.cell za1).trans kb1)
  have G2 : ∀ W, Below wa.heap.size wa W → Calls Try.prog 122 #[.int .i64 2, .pointer (some ⟨w.heap.size, 0, none⟩), .pointer (some ⟨w.heap.size + 1, 0, none⟩)] W fun e w' => e = .returned (.tuple #[.agg #[.int .i64 z1, .int .i64 z2], .int .i64 z3]) ∧ Below W.heap.size W w' := fun W hW =>
    H2.out _ _ W (Nat.lt_of_lt_of_le za0 hW.size) (Nat.lt_of_lt_of_le za1 hW.size) ((hW.cell za0).trans ka0) ((hW.cell za0).trans ka1) ((hW.cell za0).trans ka2) ((hW.cell za0).trans ka3) ((hW.cell za1).trans kb0) ((hW.cell za1).trans kb1) ((hW.cell za1).trans kb2) ((hW.cell za1).trans kb3)
  have FL := fun W h1 h2 => fill_cross wa.heap.size wa (.pointer (some ⟨w.heap.size, 0, none⟩)) (.pointer (some ⟨w.heap.size + 1, 0, none⟩)) x1 x2 x3 y1 y2 y3 z1 z2 z3 G0 G1 G2 W h1 h2
  clear G0 G1 G2 H0 H1 H2 ka0 ka1 ka2 ka3 ka4 ka5 kb0 kb1 kb2 kb3 kb4 kb5
  with_reducible refine (FL _ (kb) (by simp)).mono ?_
  rintro e w1 ⟨rfl, hb⟩
  have HB1 : Below w.heap.size w w1 := HBa.trans (hb.mono (by omega))
  replace kd0 := (hb.cell za2).trans kd0
  replace ke0 := (hb.frozen za2).trans ke0
  replace kd1 := (hb.cell za2).trans kd1
  replace ke1 := (hb.frozen za2).trans ke1
  replace kd2 := (hb.cell za2).trans kd2
  replace ke2 := (hb.frozen za2).trans ke2
  replace kd3 := (hb.cell za2).trans kd3
  replace ke3 := (hb.frozen za2).trans ke3
  replace kd4 := (hb.cell za2).trans kd4
  replace ke4 := (hb.frozen za2).trans ke4
  replace kd5 := (hb.cell za2).trans kd5
  replace ke5 := (hb.frozen za2).trans ke5
  have z0 : w.heap.size + 1 + 1 < w1.heap.size := Nat.lt_of_lt_of_le za2 hb.size
  clear hb FL HBa
  go_wp2
  refine bodyPost_ret (by simp [results, Try.results99, go_sem, ext_cell, kp, *]; try rfl) rfl ?_
  exact ⟨rfl, kb⟩
end Go.Proofs.Ytdolfdmgdknboaa
namespace Go.Proofs.Ytdolfdmgdknboaa
open Go.RowKit
set_option linter.unusedVariables false
set_option linter.unusedSimpArgs false

set_option maxRecDepth 100000 in
set_option maxHeartbeats 6400000 in
theorem vec_Dot (a b c d e f g h i j k l : Int) (p1 : okC a b) (p2 : okC c d) (p3 : okC e f) (q1 : okC g h) (q2 : okC i j) (q3 : okC k l) (w : World) :
    Calls Try.prog 41 #[.agg #[.int .i64 a, .int .i64 b, .int .i64 c, .int .i64 d, .int .i64 e, .int .i64 f], .agg #[.int .i64 g, .int .i64 h, .int .i64 i, .int .i64 j, .int .i64 k, .int .i64 l]] w fun x w' => x = .returned (.tuple #[.agg #[.int .i64 (dtN a b c d e f g h i j k l), .int .i64 (dtD a b c d e f g h i j k l)], .int .i64 (dtE a b c d e f g h i j k l)]) ∧ Below w.heap.size w w' := by
  have E1 : Hid (okV a b c d e f = true ∧ okV g h i j k l = true → ∀ w, Calls Try.prog 89 #[.agg #[.int .i64 a, .int .i64 b, .int .i64 c, .int .i64 d, .int .i64 e, .int .i64 f], .agg #[.int .i64 g, .int .i64 h, .int .i64 i, .int .i64 j, .int .i64 k, .int .i64 l]] w fun x w' => x = .returned (.tuple #[.agg #[.int .i64 (dtN a b c d e f g h i j k l), .int .i64 (dtD a b c d e f g h i j k l)], .int .i64 (dtE a b c d e f g h i j k l)]) ∧ Below w.heap.size w w') := Lib.hid (fun ho w => by
    unfold dtN dtD dtE; rw [if_pos ho, if_pos ho, if_pos ho]; exact vec_dot a b c d e f g h i j k l ho.1 ho.2 w)
  have E2 : Hid (¬ (okV a b c d e f = true ∧ okV g h i j k l = true) → dtN a b c d e f g h i j k l = 0 ∧ dtD a b c d e f g h i j k l = 0 ∧ dtE a b c d e f g h i j k l = 8) := Lib.hid (fun ho => by
    unfold dtN dtD dtE; rw [if_neg ho, if_neg ho, if_neg ho]; exact ⟨rfl, rfl, rfl⟩)
  generalize dtN a b c d e f g h i j k l = X1 at *
  generalize dtD a b c d e f g h i j k l = X2 at *
  generalize dtE a b c d e f g h i j k l = X3 at *
  have BD := Lib.hid (And.intro (And.intro p1 (And.intro p2 p3)) (And.intro q1 (And.intro q2 q3)))
  clear p1 p2 p3 q1 q2 q3
  have L1 := fun w => vec_list a b c d e f w
  have L2 := fun w => vec_list g h i j k l w
  have dAl := dAl; have dSt := dSt; have xC := ext_cell; have xF := ext_frozen; have xS := ext_set; have xN := ext_drewN; have xD := ext_drew; have xX := ext_ext; have xZ := xs_size
  have hxa0 := xa0; have hxb0 := xb0; have hxc0 := xc0; have hxd0 := xd0; have hxe0 := xe0; have hxf0 := xf0; have hxg0 := xg0; have hxh0 := xh0; have hxi0 := xi0; have hxj0 := xj0; have hxa1 := xa1; have hxb1 := xb1; have hxc1 := xc1; have hxd1 := xd1; have hxe1 := xe1; have hxf1 := xf1; have hxg1 := xg1; have hxh1 := xh1; have hxi1 := xi1; have hxj1 := xj1; have hxa2 := xa2; have hxb2 := xb2; have hxc2 := xc2; have hxd2 := xd2; have hxe2 := xe2; have hxf2 := xf2; have hxg2 := xg2; have hxh2 := xh2; have hxi2 := xi2; have hxj2 := xj2; have hxk0 := xk0; have hxk1 := xk1
  go_enter Try.func41, Try.ntmps41
  have dz1 := dzA
  have dz2 := dzB
  go_wp2_with fail
  obtain ⟨wa, hW⟩ : ∃ wa, wa = (((w.alloc (.cells #[.int .i64 a, .int .i64 b, .int .i64 c, .int .i64 d, .int .i64 e, .int .i64 f] 28)).alloc (.cells #[.int .i64 g, .int .i64 h, .int .i64 i, .int .i64 j, .int .i64 k, .int .i64 l] 28)).alloc (.cells #[.int .i64 0, .int .i64 0] 23)) := ⟨_, rfl⟩
  rw [← hW]
  have kb0 : wa.cell? ⟨w.heap.size, 0, none⟩ = some (.int .i64 a) := by rw [hW]; (simp (maxDischargeDepth := 8) [go_sem, kp, *])
  have kb1 : wa.cell? ⟨w.heap.size, 1, none⟩ = some (.int .i64 b) := by rw [hW]; (simp (maxDischargeDepth := 8) [go_sem, kp, *])
  have kb2 : wa.cell? ⟨w.heap.size, 2, none⟩ = some (.int .i64 c) := by rw [hW]; (simp (maxDischargeDepth := 8) [go_sem, kp, *])
  have kb3 : wa.cell? ⟨w.heap.size, 3, none⟩ = some (.int .i64 d) := by rw [hW]; (simp (maxDischargeDepth := 8) [go_sem, kp, *])
  have kb4 : wa.cell? ⟨w.heap.size, 4, none⟩ = some (.int .i64 e) := by rw [hW]; (simp (maxDischargeDepth := 8) [go_sem, kp, *])
  have kb5 : wa.cell? ⟨w.heap.size, 5, none⟩ = some (.int .i64 f) := by rw [hW]; (simp (maxDischargeDepth := 8) [go_sem, kp, *])
  have kc0 : wa.cell? ⟨w.heap.size + 1, 0, none⟩ = some (.int .i64 g) := by rw [hW]; (simp (maxDischargeDepth := 8) [go_sem, kp, *])
  have kc1 : wa.cell? ⟨w.heap.size + 1, 1, none⟩ = some (.int .i64 h) := by rw [hW]; (simp (maxDischargeDepth := 8) [go_sem, kp, *])
  have kc2 : wa.cell? ⟨w.heap.size + 1, 2, none⟩ = some (.int .i64 i) := by rw [hW]; (simp (maxDischargeDepth := 8) [go_sem, kp, *])
  have kc3 : wa.cell? ⟨w.heap.size + 1, 3, none⟩ = some (.int .i64 j) := by rw [hW]; (simp (maxDischargeDepth := 8) [go_sem, kp, *])
  have kc4 : wa.cell? ⟨w.heap.size + 1, 4, none⟩ = some (.int .i64 k) := by rw [hW]; (simp (maxDischargeDepth := 8) [go_sem, kp, *])
  have kc5 : wa.cell? ⟨w.heap.size + 1, 5, none⟩ = some (.int .i64 l) := by rw [hW]; (simp (maxDischargeDepth := 8) [go_sem, kp, *])
  have kd0 : wa.cell? ⟨w.heap.size + 1 + 1, 0, none⟩ = some (.int .i64 0) := by rw [hW]; (simp (maxDischargeDepth := 8) [go_sem, kp, *])
  have kd1 : wa.cell? ⟨w.heap.size + 1 + 1, 1, none⟩ = some (.int .i64 0) := by rw [hW]; (simp (maxDischargeDepth := 8) [go_sem, kp, *])
  have ke0 : wa.frozen? ⟨w.heap.size + 1 + 1, 0, none⟩ = false := by rw [hW]; (simp (maxDischargeDepth := 8) [go_sem, kp, *])
  have ke1 : wa.frozen? ⟨w.heap.size + 1 + 1, 1, none⟩ = false := by rw [hW]; (simp (maxDischargeDepth := 8) [go_sem, kp, *])
  have HBa : Below w.heap.size w wa := by rw [hW]; (with_reducible repeat (first | exact b0 _ | refine bext ?_ _ _ | refine bdn ?_ _ | refine bdr ?_ | refine bal ?_ _))
  have za : wa.heap.size = w.heap.size + 1 + 1 + 1 := by rw [hW]; simp
  have za0 : w.heap.size < wa.heap.size := by omega
  have za1 : w.heap.size + 1 < wa.heap.size := by omega
  have za2 : w.heap.size + 1 + 1 < wa.heap.size := by omega
  clear hW za
  go_cut [6, 7] (fun s8 s9 wx => ∃ ga gb : Nat, s8 = .pointer (some ⟨ga, 0, none⟩) ∧ s9 = .pointer (some ⟨gb, 0, none⟩) ∧ (wx.cell? ⟨ga, 0, none⟩ = some (.int .i64 a) ∧ wx.cell? ⟨ga, 1, none⟩ = some (.int .i64 b) ∧ wx.cell? ⟨ga, 2, none⟩ = some (.int .i64 c) ∧ wx.cell? ⟨ga, 3, none⟩ = some (.int .i64 d) ∧ wx.cell? ⟨ga, 4, none⟩ = some (.int .i64 e) ∧ wx.cell? ⟨ga, 5, none⟩ = some (.int .i64 f) ∧ wx.cell? ⟨gb, 0, none⟩ = some (.int .i64 g) ∧ wx.cell? ⟨gb, 1, none⟩ = some (.int .i64 h) ∧ wx.cell? ⟨gb, 2, none⟩ = some (.int .i64 i) ∧ wx.cell? ⟨gb, 3, none⟩ = some (.int .i64 j) ∧ wx.cell? ⟨gb, 4, none⟩ = some (.int .i64 k) ∧ wx.cell? ⟨gb, 5, none⟩ = some (.int .i64 l)) ∧ (wa.heap.size ≤ ga ∧ wa.heap.size ≤ gb ∧ ga < wx.heap.size ∧ gb < wx.heap.size) ∧ Below wa.heap.size wa wx)
  case first =>
    clear BD
    go_region_law ((go_simp; first | (go_at_call 44; with_reducible refine (L1 _).mono ?_; rintro x w' ⟨rfl, hb⟩; obtain ⟨l9, d9, rfl⟩ := toExt hb; clear hb) | (go_at_call 44; with_reducible refine (L2 _).mono ?_; rintro x w' ⟨rfl, hb⟩; obtain ⟨l9, d9, rfl⟩ := toExt hb; clear hb)))
    all_goals go_wp2_with fail
    all_goals go_meet
    all_goals refine ⟨_, _, rfl, rfl, ⟨kk, kk, kk, kk, kk, kk, kk, kk, kk, kk, kk, kk⟩, ⟨?_, ?_, ?_, ?_⟩, kb⟩
    all_goals (simp [ext_size, World.setCell, xs] <;> omega)
  case rest =>
    clear xC xF xS xN xD xX xZ hxa0 hxb0 hxc0 hxd0 hxe0 hxf0 hxg0 hxh0 hxi0 hxj0 hxa1 hxb1 hxc1 hxd1 hxe1 hxf1 hxg1 hxh1 hxi1 hxj1 hxa2 hxb2 hxc2 hxd2 hxe2 hxf2 hxg2 hxh2 hxi2 hxj2 hxk0 hxk1
    clear dz1 dz2 L1 L2
    obtain ⟨ga, gb, rfl, rfl, ⟨va0, va1, va2, va3, va4, va5, vb0, vb1, vb2, vb3, vb4, vb5⟩, ⟨s1, s2, s3, s4⟩, HBx⟩ := hcut
    have dAl := dAl; have dSt := dSt; have xC := ext_cell; have xF := ext_frozen; have xS := ext_set; have xN := ext_drewN; have xD := ext_drew; have xL := ext_lt; have xE := ext_ne; have xG := ext_nr; have xX := ext_ext; have xL1 := ext_lt1; have xL2 := ext_lt2; have xL3 := ext_lt3; have xM0 := ext_le0; have xM1 := ext_le1; have xM2 := ext_le2
    have s0 : w.heap.size < wc.heap.size := by omega
    have s5 : w.heap.size + 1 + 1 < wc.heap.size := by omega
    have HBc : Below w.heap.size w wc := HBa.trans (HBx.mono (by omega))
    have vr0 : wc.cell? ⟨w.heap.size + 1 + 1, 0, none⟩ = some (.int .i64 0) := (HBx.cell za2).trans kd0
    have vz0 : wc.frozen? ⟨w.heap.size + 1 + 1, 0, none⟩ = false := (HBx.frozen za2).trans ke0
    have vr1 : wc.cell? ⟨w.heap.size + 1 + 1, 1, none⟩ = some (.int .i64 0) := (HBx.cell za2).trans kd1
    have vz1 : wc.frozen? ⟨w.heap.size + 1 + 1, 1, none⟩ = false := (HBx.frozen za2).trans ke1
    clear HBx HBa kb0 kb1 kb2 kb3 kb4 kb5 kc0 kc1 kc2 kc3 kc4 kc5 kd0 kd1 ke0 ke1
    have CK : ∀ (W : World) (gg : Nat), gg < W.heap.size → (∀ o, o < 12 → W.cell? ⟨gg, o, none⟩ = some (.int .i64 (li [a, b, c, d, e, f, g, h, i, j, k, l] o))) →
        Calls Try.prog 45 #[.slice (some ⟨gg, 0, none⟩) 2 2] W fun x w' => x = .returned (.int .i64 (if okV a b c d e f = true ∧ okV g h i j k l = true then 0 else 8)) ∧ Below W.heap.size W w' := by
      intro W gg h1 h2
      have := vec_check (li [a, b, c, d, e, f, g, h, i, j, k, l]) gg 2 2 (by omega) (by
        intro n hn
        rcases (show n = 0 ∨ n = 1 by omega) with rfl | rfl
        · exact BD.out.1
        · exact BD.out.2) W h1 h2
      rw [rows2] at this
      exact this
    clear BD
    by_cases ho : okV a b c d e f = true ∧ okV g h i j k l = true
    · rw [if_pos ho] at CK
      have DD := E1.out ho
      clear ho E1 E2
      go_wp2_with fail
      with_reducible refine (CK _ _ (by simp) (all12 (by simp [li]) (by simp [li]) (by simp [li]) (by simp [li]) (by simp [li]) (by simp [li]) (by simp [li]) (by simp [li]) (by simp [li]) (by simp [li]) (by simp [li]) (by simp [li]))).mono ?_
      rintro e w1 ⟨rfl, hb⟩
      have HB1 : Below w.heap.size w w1 := by
        refine Below.trans ?_ (hb.mono ?_)
        · exact kb
        · first | omega | (simp <;> omega)
      have zs1 : wc.heap.size + 1 < w1.heap.size + 1 := by have := hb.size; (try simp at this); omega
      replace va0 : w1.cell? ⟨ga, 0, none⟩ = some (.int .i64 a) := bce hb
      replace va1 : w1.cell? ⟨ga, 1, none⟩ = some (.int .i64 b) := bce hb
      replace va2 : w1.cell? ⟨ga, 2, none⟩ = some (.int .i64 c) := bce hb
      replace va3 : w1.cell? ⟨ga, 3, none⟩ = some (.int .i64 d) := bce hb
      replace va4 : w1.cell? ⟨ga, 4, none⟩ = some (.int .i64 e) := bce hb
      replace va5 : w1.cell? ⟨ga, 5, none⟩ = some (.int .i64 f) := bce hb
      replace vb0 : w1.cell? ⟨gb, 0, none⟩ = some (.int .i64 g) := bce hb
      replace vb1 : w1.cell? ⟨gb, 1, none⟩ = some (.int .i64 h) := bce hb
      replace vb2 : w1.cell? ⟨gb, 2, none⟩ = some (.int .i64 i) := bce hb
      replace vb3 : w1.cell? ⟨gb, 3, none⟩ = some (.int .i64 j) := bce hb
      replace vb4 : w1.cell? ⟨gb, 4, none⟩ = some (.int .i64 k) := bce hb
      replace vb5 : w1.cell? ⟨gb, 5, none⟩ = some (.int .i64 l) := bce hb
      replace vr0 : w1.cell? ⟨w.heap.size + 1 + 1, 0, none⟩ = some (.int .i64 0) := bce hb
      replace vr1 : w1.cell? ⟨w.heap.size + 1 + 1, 1, none⟩ = some (.int .i64 0) := bce hb
      replace vz0 : w1.frozen? ⟨w.heap.size + 1 + 1, 0, none⟩ = false := bfz hb
      replace vz1 : w1.frozen? ⟨w.heap.size + 1 + 1, 1, none⟩ = false := bfz hb
      clear hb HBc
      have zy0_1 : w.heap.size < w1.heap.size := by omega
      have zy1_1 : w.heap.size + 1 < w1.heap.size := by omega
      have zy2_1 : w.heap.size + 1 + 1 < w1.heap.size := by omega
      have zn_ga_1 : ga < w1.heap.size := by omega
      have zn_gb_1 : gb < w1.heap.size := by omega
      go_wp2_with fail
      with_reducible refine (DD _).mono ?_
      rintro e w2 ⟨rfl, hb⟩
      have HB2 : Below w.heap.size w w2 := by
        refine Below.trans ?_ (hb.mono ?_)
        · exact kb
        · first | omega | (simp <;> omega)
      have zs2 : w1.heap.size + 0 < w2.heap.size + 1 := by have := hb.size; (try simp at this); omega
      replace vr0 : w2.cell? ⟨w.heap.size + 1 + 1, 0, none⟩ = some (.int .i64 0) := bce hb
      replace vr1 : w2.cell? ⟨w.heap.size + 1 + 1, 1, none⟩ = some (.int .i64 0) := bce hb
      replace vz0 : w2.frozen? ⟨w.heap.size + 1 + 1, 0, none⟩ = false := bfz hb
      replace vz1 : w2.frozen? ⟨w.heap.size + 1 + 1, 1, none⟩ = false := bfz hb
      clear hb HB1
      have zy0_2 : w.heap.size < w2.heap.size := by omega
      have zy1_2 : w.heap.size + 1 < w2.heap.size := by omega
      have zy2_2 : w.heap.size + 1 + 1 < w2.heap.size := by omega
      go_wp2_with fail
      refine bodyPost_ret (by simp [results, Try.results41, go_sem, ext_cell, kp, *]; try rfl) rfl ?_
      exact ⟨rfl, kb⟩
    · rw [if_neg ho] at CK
      obtain ⟨rfl, rfl, rfl⟩ := E2.out ho
      clear ho E1 E2
      go_wp2_with fail
      with_reducible refine (CK _ _ (by simp) (all12 (by simp [li]) (by simp [li]) (by simp [li]) (by simp [li]) (by simp [li]) (by simp [li]) (by simp [li]) (by simp [li]) (by simp [li]) (by simp [li]) (by simp [li]) (by simp [li]))).mono ?_
      rintro e w1 ⟨rfl, hb⟩
      have HB1 : Below w.heap.size w w1 := by
        refine Below.trans ?_ (hb.mono ?_)
        · exact kb
        · first | omega | (simp <;> omega)
      have zs1 : wc.heap.size + 1 < w1.heap.size + 1 := by have := hb.size; (try simp at this); omega
      replace va0 : w1.cell? ⟨ga, 0, none⟩ = some (.int .i64 a) := bce hb
      replace va1 : w1.cell? ⟨ga, 1, none⟩ = some (.int .i64 b) := bce hb
      replace va2 : w1.cell? ⟨ga, 2, none⟩ = some (.int .i64 c) := bce hb
      replace va3 : w1.cell? ⟨ga, 3, none⟩ = some (.int .i64 d) := bce hb
      replace va4 : w1.cell? ⟨ga, 4, none⟩ = some (.int .i64 e) := bce hb
      replace va5 : w1.cell? ⟨ga, 5, none⟩ = some (.int .i64 f) := bce hb
      replace vb0 : w1.cell? ⟨gb, 0, none⟩ = some (.int .i64 g) := bce hb
      replace vb1 : w1.cell? ⟨gb, 1, none⟩ = some (.int .i64 h) := bce hb
      replace vb2 : w1.cell? ⟨gb, 2, none⟩ = some (.int .i64 i) := bce hb
      replace vb3 : w1.cell? ⟨gb, 3, none⟩ = some (.int .i64 j) := bce hb
      replace vb4 : w1.cell? ⟨gb, 4, none⟩ = some (.int .i64 k) := bce hb
      replace vb5 : w1.cell? ⟨gb, 5, none⟩ = some (.int .i64 l) := bce hb
      replace vr0 : w1.cell? ⟨w.heap.size + 1 + 1, 0, none⟩ = some (.int .i64 0) := bce hb
      replace vr1 : w1.cell? ⟨w.heap.size + 1 + 1, 1, none⟩ = some (.int .i64 0) := bce hb
      replace vz0 : w1.frozen? ⟨w.heap.size + 1 + 1, 0, none⟩ = false := bfz hb
      replace vz1 : w1.frozen? ⟨w.heap.size + 1 + 1, 1, none⟩ = false := bfz hb
      clear hb HBc
      have zy0_1 : w.heap.size < w1.heap.size := by omega
      have zy1_1 : w.heap.size + 1 < w1.heap.size := by omega
      have zy2_1 : w.heap.size + 1 + 1 < w1.heap.size := by omega
      have zn_ga_1 : ga < w1.heap.size := by omega
      have zn_gb_1 : gb < w1.heap.size := by omega
      go_wp2_with fail
      refine bodyPost_ret (by simp [results, Try.results41, go_sem, ext_cell, kp, *]; try rfl) rfl ?_
      exact ⟨rfl, kb⟩
end Go.Proofs.Ytdolfdmgdknboaa
