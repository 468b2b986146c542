/-
  Package vec: fill with each of the closures.
-/
import Derived.Test.YtbckjccbihnlnaaVe
namespace Go.Proofs.Ytbckjccbihnlnaa
open Go.RowKit
set_option linter.unusedVariables false
set_option linter.unusedSimpArgs false

set_option maxRecDepth 100000 in
set_option maxHeartbeats 3200000 in
theorem fill_comb (B : Nat) (w0 : World) (p0 p1 p2 : Value) (X0 Y0 E0 X1 Y1 E1 X2 Y2 E2 : Int)
    (A0 : ∀ w, Below B w0 w → Calls Try.prog 121 #[.int .i64 0, p0, p1, p2] w fun e w' => e = .returned (.tuple #[.agg #[.int .i64 X0, .int .i64 Y0], .int .i64 E0]) ∧ Below w.heap.size w w')
    (A1 : ∀ w, Below B w0 w → Calls Try.prog 121 #[.int .i64 1, p0, p1, p2] w fun e w' => e = .returned (.tuple #[.agg #[.int .i64 X1, .int .i64 Y1], .int .i64 E1]) ∧ Below w.heap.size w w')
    (A2 : ∀ w, Below B w0 w → Calls Try.prog 121 #[.int .i64 2, p0, p1, p2] w fun e w' => e = .returned (.tuple #[.agg #[.int .i64 X2, .int .i64 Y2], .int .i64 E2]) ∧ Below w.heap.size w w')
    (w : World) (hB : Below B w0 w) (hle : B ≤ w.heap.size) :
    Calls Try.prog 120 #[.func (.func 121) #[] #[p0, p1, p2]] w fun e w' => e = .returned (.tuple #[.agg #[.int .i64 (vz (fsI E0 E1 E2) X0), .int .i64 (vz (fsI E0 E1 E2) Y0), .int .i64 (vz (fsI E0 E1 E2) X1), .int .i64 (vz (fsI E0 E1 E2) Y1), .int .i64 (vz (fsI E0 E1 E2) X2), .int .i64 (vz (fsI E0 E1 E2) Y2)], .int .i64 (fsI E0 E1 E2)]) ∧ Below w.heap.size w w' := by
  by_cases h0 : E0 = 0
  · subst h0
    by_cases h1 : E1 = 0
    · subst h1
      by_cases h2 : E2 = 0
      · subst h2
        rw [show fsI 0 0 0 = 0 from rfl, vz0, vz0, vz0, vz0, vz0, vz0]
        have dAl := dAl; have dSt := dSt; have xC := ext_cell; have xF := ext_frozen; have xS := ext_set; have xN := ext_drewN; have xD := ext_drew; have xL := ext_lt; have xE := ext_ne; have xG := ext_nr; have xX := ext_ext; have xL1 := ext_lt1; have xL2 := ext_lt2; have xL3 := ext_lt3; have xM0 := ext_le0; have xM1 := ext_le1; have xM2 := ext_le2
        go_enter Try.func120, Try.ntmps120
        go_wp2_with fail
        refine wp_loop_rounds 4 ?_
        rw [rounds_succ]
        go_wp2_with fail
        with_reducible refine (A0 _ ?hw0).mono ?_
        case hw0 =>
          refine Below.trans hB (Below.mono ?_ hle)
          (repeat (first | with_reducible exact b0 _ | (with_reducible refine bal ?_ _) | (with_reducible refine below_drewN ?_ _) | (with_reducible refine Below.drew ?_) | (with_reducible refine bset ?_ (by first | omega | (simp <;> omega)) _)))
        rintro e w1 ⟨rfl, hb⟩
        have HB1 : Below w.heap.size w w1 := by
          refine Below.trans ?_ (hb.mono ?_)
          · (repeat (first | with_reducible exact b0 _ | (with_reducible refine bal ?_ _) | (with_reducible refine below_drewN ?_ _) | (with_reducible refine Below.drew ?_) | (with_reducible refine bset ?_ (by first | omega | (simp <;> omega)) _)))
          · first | omega | (simp <;> omega)
        have zs1 : w.heap.size + 2 < w1.heap.size + 1 := by have := hb.size; (try simp at this); omega
        have c0 : w1.cell? ⟨w.heap.size, 0, none⟩ = some (.int .i64 0) := (hb.cell (by first | omega | (simp <;> omega))).trans (by (simp (maxDischargeDepth := 8) [go_sem, World.cell?_alloc_past, ltk2, ltk3, ltk4, ltk5, ltk6, ltk7, ltk8, ltk9, *]))
        have c1 : w1.cell? ⟨w.heap.size, 1, none⟩ = some (.int .i64 0) := (hb.cell (by first | omega | (simp <;> omega))).trans (by (simp (maxDischargeDepth := 8) [go_sem, World.cell?_alloc_past, ltk2, ltk3, ltk4, ltk5, ltk6, ltk7, ltk8, ltk9, *]))
        have c2 : w1.cell? ⟨w.heap.size, 2, none⟩ = some (.int .i64 0) := (hb.cell (by first | omega | (simp <;> omega))).trans (by (simp (maxDischargeDepth := 8) [go_sem, World.cell?_alloc_past, ltk2, ltk3, ltk4, ltk5, ltk6, ltk7, ltk8, ltk9, *]))
        have c3 : w1.cell? ⟨w.heap.size, 3, none⟩ = some (.int .i64 0) := (hb.cell (by first | omega | (simp <;> omega))).trans (by (simp (maxDischargeDepth := 8) [go_sem, World.cell?_alloc_past, ltk2, ltk3, ltk4, ltk5, ltk6, ltk7, ltk8, ltk9, *]))
        have c4 : w1.cell? ⟨w.heap.size, 4, none⟩ = some (.int .i64 0) := (hb.cell (by first | omega | (simp <;> omega))).trans (by (simp (maxDischargeDepth := 8) [go_sem, World.cell?_alloc_past, ltk2, ltk3, ltk4, ltk5, ltk6, ltk7, ltk8, ltk9, *]))
        have c5 : w1.cell? ⟨w.heap.size, 5, none⟩ = some (.int .i64 0) := (hb.cell (by first | omega | (simp <;> omega))).trans (by (simp (maxDischargeDepth := 8) [go_sem, World.cell?_alloc_past, ltk2, ltk3, ltk4, ltk5, ltk6, ltk7, ltk8, ltk9, *]))
        have cf0 : w1.frozen? ⟨w.heap.size, 0, none⟩ = false := (hb.frozen (by first | omega | (simp <;> omega))).trans (by (simp (maxDischargeDepth := 8) [go_sem, World.cell?_alloc_past, ltk2, ltk3, ltk4, ltk5, ltk6, ltk7, ltk8, ltk9, *]))
        have cf1 : w1.frozen? ⟨w.heap.size, 1, none⟩ = false := (hb.frozen (by first | omega | (simp <;> omega))).trans (by (simp (maxDischargeDepth := 8) [go_sem, World.cell?_alloc_past, ltk2, ltk3, ltk4, ltk5, ltk6, ltk7, ltk8, ltk9, *]))
        have cf2 : w1.frozen? ⟨w.heap.size, 2, none⟩ = false := (hb.frozen (by first | omega | (simp <;> omega))).trans (by (simp (maxDischargeDepth := 8) [go_sem, World.cell?_alloc_past, ltk2, ltk3, ltk4, ltk5, ltk6, ltk7, ltk8, ltk9, *]))
        have cf3 : w1.frozen? ⟨w.heap.size, 3, none⟩ = false := (hb.frozen (by first | omega | (simp <;> omega))).trans (by (simp (maxDischargeDepth := 8) [go_sem, World.cell?_alloc_past, ltk2, ltk3, ltk4, ltk5, ltk6, ltk7, ltk8, ltk9, *]))
        have cf4 : w1.frozen? ⟨w.heap.size, 4, none⟩ = false := (hb.frozen (by first | omega | (simp <;> omega))).trans (by (simp (maxDischargeDepth := 8) [go_sem, World.cell?_alloc_past, ltk2, ltk3, ltk4, ltk5, ltk6, ltk7, ltk8, ltk9, *]))
        have cf5 : w1.frozen? ⟨w.heap.size, 5, none⟩ = false := (hb.frozen (by first | omega | (simp <;> omega))).trans (by (simp (maxDischargeDepth := 8) [go_sem, World.cell?_alloc_past, ltk2, ltk3, ltk4, ltk5, ltk6, ltk7, ltk8, ltk9, *]))
        have r0 : w1.cell? ⟨w.heap.size + 1, 0, none⟩ = some (.int .i64 0) := (hb.cell (by first | omega | (simp <;> omega))).trans (by (simp (maxDischargeDepth := 8) [go_sem, World.cell?_alloc_past, ltk2, ltk3, ltk4, ltk5, ltk6, ltk7, ltk8, ltk9, *]))
        have r1 : w1.cell? ⟨w.heap.size + 1, 1, none⟩ = some (.int .i64 0) := (hb.cell (by first | omega | (simp <;> omega))).trans (by (simp (maxDischargeDepth := 8) [go_sem, World.cell?_alloc_past, ltk2, ltk3, ltk4, ltk5, ltk6, ltk7, ltk8, ltk9, *]))
        have r2 : w1.cell? ⟨w.heap.size + 1, 2, none⟩ = some (.int .i64 0) := (hb.cell (by first | omega | (simp <;> omega))).trans (by (simp (maxDischargeDepth := 8) [go_sem, World.cell?_alloc_past, ltk2, ltk3, ltk4, ltk5, ltk6, ltk7, ltk8, ltk9, *]))
        have r3 : w1.cell? ⟨w.heap.size + 1, 3, none⟩ = some (.int .i64 0) := (hb.cell (by first | omega | (simp <;> omega))).trans (by (simp (maxDischargeDepth := 8) [go_sem, World.cell?_alloc_past, ltk2, ltk3, ltk4, ltk5, ltk6, ltk7, ltk8, ltk9, *]))
        have r4 : w1.cell? ⟨w.heap.size + 1, 4, none⟩ = some (.int .i64 0) := (hb.cell (by first | omega | (simp <;> omega))).trans (by (simp (maxDischargeDepth := 8) [go_sem, World.cell?_alloc_past, ltk2, ltk3, ltk4, ltk5, ltk6, ltk7, ltk8, ltk9, *]))
        have r5 : w1.cell? ⟨w.heap.size + 1, 5, none⟩ = some (.int .i64 0) := (hb.cell (by first | omega | (simp <;> omega))).trans (by (simp (maxDischargeDepth := 8) [go_sem, World.cell?_alloc_past, ltk2, ltk3, ltk4, ltk5, ltk6, ltk7, ltk8, ltk9, *]))
        have rf0 : w1.frozen? ⟨w.heap.size + 1, 0, none⟩ = false := (hb.frozen (by first | omega | (simp <;> omega))).trans (by (simp (maxDischargeDepth := 8) [go_sem, World.cell?_alloc_past, ltk2, ltk3, ltk4, ltk5, ltk6, ltk7, ltk8, ltk9, *]))
        have rf1 : w1.frozen? ⟨w.heap.size + 1, 1, none⟩ = false := (hb.frozen (by first | omega | (simp <;> omega))).trans (by (simp (maxDischargeDepth := 8) [go_sem, World.cell?_alloc_past, ltk2, ltk3, ltk4, ltk5, ltk6, ltk7, ltk8, ltk9, *]))
        have rf2 : w1.frozen? ⟨w.heap.size + 1, 2, none⟩ = false := (hb.frozen (by first | omega | (simp <;> omega))).trans (by (simp (maxDischargeDepth := 8) [go_sem, World.cell?_alloc_past, ltk2, ltk3, ltk4, ltk5, ltk6, ltk7, ltk8, ltk9, *]))
        have rf3 : w1.frozen? ⟨w.heap.size + 1, 3, none⟩ = false := (hb.frozen (by first | omega | (simp <;> omega))).trans (by (simp (maxDischargeDepth := 8) [go_sem, World.cell?_alloc_past, ltk2, ltk3, ltk4, ltk5, ltk6, ltk7, ltk8, ltk9, *]))
        have rf4 : w1.frozen? ⟨w.heap.size + 1, 4, none⟩ = false := (hb.frozen (by first | omega | (simp <;> omega))).trans (by (simp (maxDischargeDepth := 8) [go_sem, World.cell?_alloc_past, ltk2, ltk3, ltk4, ltk5, ltk6, ltk7, ltk8, ltk9, *]))
        have rf5 : w1.frozen? ⟨w.heap.size + 1, 5, none⟩ = false := (hb.frozen (by first | omega | (simp <;> omega))).trans (by (simp (maxDischargeDepth := 8) [go_sem, World.cell?_alloc_past, ltk2, ltk3, ltk4, ltk5, ltk6, ltk7, ltk8, ltk9, *]))
        clear hb
        have zy0_1 : w.heap.size < w1.heap.size := by omega
        have zy1_1 : w.heap.size + 1 < w1.heap.size := by omega
        clear A0
        go_wp2_with fail
        rw [rounds_succ]
        go_wp2_with fail
        with_reducible refine (A1 _ ?hw1).mono ?_
        case hw1 =>
          refine Below.trans hB (Below.mono ?_ hle)
          (repeat (first | with_reducible exact HB1 | (with_reducible refine bal ?_ _) | (with_reducible refine below_drewN ?_ _) | (with_reducible refine Below.drew ?_) | (with_reducible refine bset ?_ (by first | omega | (simp <;> omega)) _)))
        rintro e w2 ⟨rfl, hb⟩
        have HB2 : Below w.heap.size w w2 := by
          refine Below.trans ?_ (hb.mono ?_)
          · (repeat (first | with_reducible exact HB1 | (with_reducible refine bal ?_ _) | (with_reducible refine below_drewN ?_ _) | (with_reducible refine Below.drew ?_) | (with_reducible refine bset ?_ (by first | omega | (simp <;> omega)) _)))
          · first | omega | (simp <;> omega)
        have zs2 : w1.heap.size + 0 < w2.heap.size + 1 := by have := hb.size; (try simp at this); omega
        replace c0 : w2.cell? ⟨w.heap.size, 0, none⟩ = some (.int .i64 0) := (hb.cell (by first | omega | (simp <;> omega))).trans (by (simp (maxDischargeDepth := 8) [go_sem, World.cell?_alloc_past, ltk2, ltk3, ltk4, ltk5, ltk6, ltk7, ltk8, ltk9, *]))
        replace c1 : w2.cell? ⟨w.heap.size, 1, none⟩ = some (.int .i64 0) := (hb.cell (by first | omega | (simp <;> omega))).trans (by (simp (maxDischargeDepth := 8) [go_sem, World.cell?_alloc_past, ltk2, ltk3, ltk4, ltk5, ltk6, ltk7, ltk8, ltk9, *]))
        replace c2 : w2.cell? ⟨w.heap.size, 2, none⟩ = some (.int .i64 0) := (hb.cell (by first | omega | (simp <;> omega))).trans (by (simp (maxDischargeDepth := 8) [go_sem, World.cell?_alloc_past, ltk2, ltk3, ltk4, ltk5, ltk6, ltk7, ltk8, ltk9, *]))
        replace c3 : w2.cell? ⟨w.heap.size, 3, none⟩ = some (.int .i64 0) := (hb.cell (by first | omega | (simp <;> omega))).trans (by (simp (maxDischargeDepth := 8) [go_sem, World.cell?_alloc_past, ltk2, ltk3, ltk4, ltk5, ltk6, ltk7, ltk8, ltk9, *]))
        replace c4 : w2.cell? ⟨w.heap.size, 4, none⟩ = some (.int .i64 0) := (hb.cell (by first | omega | (simp <;> omega))).trans (by (simp (maxDischargeDepth := 8) [go_sem, World.cell?_alloc_past, ltk2, ltk3, ltk4, ltk5, ltk6, ltk7, ltk8, ltk9, *]))
        replace c5 : w2.cell? ⟨w.heap.size, 5, none⟩ = some (.int .i64 0) := (hb.cell (by first | omega | (simp <;> omega))).trans (by (simp (maxDischargeDepth := 8) [go_sem, World.cell?_alloc_past, ltk2, ltk3, ltk4, ltk5, ltk6, ltk7, ltk8, ltk9, *]))
        replace cf0 : w2.frozen? ⟨w.heap.size, 0, none⟩ = false := (hb.frozen (by first | omega | (simp <;> omega))).trans (by (simp (maxDischargeDepth := 8) [go_sem, World.cell?_alloc_past, ltk2, ltk3, ltk4, ltk5, ltk6, ltk7, ltk8, ltk9, *]))
        replace cf1 : w2.frozen? ⟨w.heap.size, 1, none⟩ = false := (hb.frozen (by first | omega | (simp <;> omega))).trans (by (simp (maxDischargeDepth := 8) [go_sem, World.cell?_alloc_past, ltk2, ltk3, ltk4, ltk5, ltk6, ltk7, ltk8, ltk9, *]))
        replace cf2 : w2.frozen? ⟨w.heap.size, 2, none⟩ = false := (hb.frozen (by first | omega | (simp <;> omega))).trans (by (simp (maxDischargeDepth := 8) [go_sem, World.cell?_alloc_past, ltk2, ltk3, ltk4, ltk5, ltk6, ltk7, ltk8, ltk9, *]))
        replace cf3 : w2.frozen? ⟨w.heap.size, 3, none⟩ = false := (hb.frozen (by first | omega | (simp <;> omega))).trans (by (simp (maxDischargeDepth := 8) [go_sem, World.cell?_alloc_past, ltk2, ltk3, ltk4, ltk5, ltk6, ltk7, ltk8, ltk9, *]))
        replace cf4 : w2.frozen? ⟨w.heap.size, 4, none⟩ = false := (hb.frozen (by first | omega | (simp <;> omega))).trans (by (simp (maxDischargeDepth := 8) [go_sem, World.cell?_alloc_past, ltk2, ltk3, ltk4, ltk5, ltk6, ltk7, ltk8, ltk9, *]))
        replace cf5 : w2.frozen? ⟨w.heap.size, 5, none⟩ = false := (hb.frozen (by first | omega | (simp <;> omega))).trans (by (simp (maxDischargeDepth := 8) [go_sem, World.cell?_alloc_past, ltk2, ltk3, ltk4, ltk5, ltk6, ltk7, ltk8, ltk9, *]))
        replace r0 : w2.cell? ⟨w.heap.size + 1, 0, none⟩ = some (.int .i64 X0) := (hb.cell (by first | omega | (simp <;> omega))).trans (by (simp (maxDischargeDepth := 8) [go_sem, World.cell?_alloc_past, ltk2, ltk3, ltk4, ltk5, ltk6, ltk7, ltk8, ltk9, *]))
        replace r1 : w2.cell? ⟨w.heap.size + 1, 1, none⟩ = some (.int .i64 Y0) := (hb.cell (by first | omega | (simp <;> omega))).trans (by (simp (maxDischargeDepth := 8) [go_sem, World.cell?_alloc_past, ltk2, ltk3, ltk4, ltk5, ltk6, ltk7, ltk8, ltk9, *]))
        replace r2 : w2.cell? ⟨w.heap.size + 1, 2, none⟩ = some (.int .i64 0) := (hb.cell (by first | omega | (simp <;> omega))).trans (by (simp (maxDischargeDepth := 8) [go_sem, World.cell?_alloc_past, ltk2, ltk3, ltk4, ltk5, ltk6, ltk7, ltk8, ltk9, *]))
        replace r3 : w2.cell? ⟨w.heap.size + 1, 3, none⟩ = some (.int .i64 0) := (hb.cell (by first | omega | (simp <;> omega))).trans (by (simp (maxDischargeDepth := 8) [go_sem, World.cell?_alloc_past, ltk2, ltk3, ltk4, ltk5, ltk6, ltk7, ltk8, ltk9, *]))
        replace r4 : w2.cell? ⟨w.heap.size + 1, 4, none⟩ = some (.int .i64 0) := (hb.cell (by first | omega | (simp <;> omega))).trans (by (simp (maxDischargeDepth := 8) [go_sem, World.cell?_alloc_past, ltk2, ltk3, ltk4, ltk5, ltk6, ltk7, ltk8, ltk9, *]))
        replace r5 : w2.cell? ⟨w.heap.size + 1, 5, none⟩ = some (.int .i64 0) := (hb.cell (by first | omega | (simp <;> omega))).trans (by (simp (maxDischargeDepth := 8) [go_sem, World.cell?_alloc_past, ltk2, ltk3, ltk4, ltk5, ltk6, ltk7, ltk8, ltk9, *]))
        replace rf0 : w2.frozen? ⟨w.heap.size + 1, 0, none⟩ = false := (hb.frozen (by first | omega | (simp <;> omega))).trans (by (simp (maxDischargeDepth := 8) [go_sem, World.cell?_alloc_past, ltk2, ltk3, ltk4, ltk5, ltk6, ltk7, ltk8, ltk9, *]))
        replace rf1 : w2.frozen? ⟨w.heap.size + 1, 1, none⟩ = false := (hb.frozen (by first | omega | (simp <;> omega))).trans (by (simp (maxDischargeDepth := 8) [go_sem, World.cell?_alloc_past, ltk2, ltk3, ltk4, ltk5, ltk6, ltk7, ltk8, ltk9, *]))
        replace rf2 : w2.frozen? ⟨w.heap.size + 1, 2, none⟩ = false := (hb.frozen (by first | omega | (simp <;> omega))).trans (by (simp (maxDischargeDepth := 8) [go_sem, World.cell?_alloc_past, ltk2, ltk3, ltk4, ltk5, ltk6, ltk7, ltk8, ltk9, *]))
        replace rf3 : w2.frozen? ⟨w.heap.size + 1, 3, none⟩ = false := (hb.frozen (by first | omega | (simp <;> omega))).trans (by (simp (maxDischargeDepth := 8) [go_sem, World.cell?_alloc_past, ltk2, ltk3, ltk4, ltk5, ltk6, ltk7, ltk8, ltk9, *]))
        replace rf4 : w2.frozen? ⟨w.heap.size + 1, 4, none⟩ = false := (hb.frozen (by first | omega | (simp <;> omega))).trans (by (simp (maxDischargeDepth := 8) [go_sem, World.cell?_alloc_past, ltk2, ltk3, ltk4, ltk5, ltk6, ltk7, ltk8, ltk9, *]))
        replace rf5 : w2.frozen? ⟨w.heap.size + 1, 5, none⟩ = false := (hb.frozen (by first | omega | (simp <;> omega))).trans (by (simp (maxDischargeDepth := 8) [go_sem, World.cell?_alloc_past, ltk2, ltk3, ltk4, ltk5, ltk6, ltk7, ltk8, ltk9, *]))
        clear hb HB1
        have zy0_2 : w.heap.size < w2.heap.size := by omega
        have zy1_2 : w.heap.size + 1 < w2.heap.size := by omega
        clear A1
        go_wp2_with fail
        rw [rounds_succ]
        go_wp2_with fail
        with_reducible refine (A2 _ ?hw2).mono ?_
        case hw2 =>
          refine Below.trans hB (Below.mono ?_ hle)
          (repeat (first | with_reducible exact HB2 | (with_reducible refine bal ?_ _) | (with_reducible refine below_drewN ?_ _) | (with_reducible refine Below.drew ?_) | (with_reducible refine bset ?_ (by first | omega | (simp <;> omega)) _)))
        rintro e w3 ⟨rfl, hb⟩
        have HB3 : Below w.heap.size w w3 := by
          refine Below.trans ?_ (hb.mono ?_)
          · (repeat (first | with_reducible exact HB2 | (with_reducible refine bal ?_ _) | (with_reducible refine below_drewN ?_ _) | (with_reducible refine Below.drew ?_) | (with_reducible refine bset ?_ (by first | omega | (simp <;> omega)) _)))
          · first | omega | (simp <;> omega)
        have zs3 : w2.heap.size + 0 < w3.heap.size + 1 := by have := hb.size; (try simp at this); omega
        replace c0 : w3.cell? ⟨w.heap.size, 0, none⟩ = some (.int .i64 0) := (hb.cell (by first | omega | (simp <;> omega))).trans (by (simp (maxDischargeDepth := 8) [go_sem, World.cell?_alloc_past, ltk2, ltk3, ltk4, ltk5, ltk6, ltk7, ltk8, ltk9, *]))
        replace c1 : w3.cell? ⟨w.heap.size, 1, none⟩ = some (.int .i64 0) := (hb.cell (by first | omega | (simp <;> omega))).trans (by (simp (maxDischargeDepth := 8) [go_sem, World.cell?_alloc_past, ltk2, ltk3, ltk4, ltk5, ltk6, ltk7, ltk8, ltk9, *]))
        replace c2 : w3.cell? ⟨w.heap.size, 2, none⟩ = some (.int .i64 0) := (hb.cell (by first | omega | (simp <;> omega))).trans (by (simp (maxDischargeDepth := 8) [go_sem, World.cell?_alloc_past, ltk2, ltk3, ltk4, ltk5, ltk6, ltk7, ltk8, ltk9, *]))
        replace c3 : w3.cell? ⟨w.heap.size, 3, none⟩ = some (.int .i64 0) := (hb.cell (by first | omega | (simp <;> omega))).trans (by (simp (maxDischargeDepth := 8) [go_sem, World.cell?_alloc_past, ltk2, ltk3, ltk4, ltk5, ltk6, ltk7, ltk8, ltk9, *]))
        replace c4 : w3.cell? ⟨w.heap.size, 4, none⟩ = some (.int .i64 0) := (hb.cell (by first | omega | (simp <;> omega))).trans (by (simp (maxDischargeDepth := 8) [go_sem, World.cell?_alloc_past, ltk2, ltk3, ltk4, ltk5, ltk6, ltk7, ltk8, ltk9, *]))
        replace c5 : w3.cell? ⟨w.heap.size, 5, none⟩ = some (.int .i64 0) := (hb.cell (by first | omega | (simp <;> omega))).trans (by (simp (maxDischargeDepth := 8) [go_sem, World.cell?_alloc_past, ltk2, ltk3, ltk4, ltk5, ltk6, ltk7, ltk8, ltk9, *]))
        replace cf0 : w3.frozen? ⟨w.heap.size, 0, none⟩ = false := (hb.frozen (by first | omega | (simp <;> omega))).trans (by (simp (maxDischargeDepth := 8) [go_sem, World.cell?_alloc_past, ltk2, ltk3, ltk4, ltk5, ltk6, ltk7, ltk8, ltk9, *]))
        replace cf1 : w3.frozen? ⟨w.heap.size, 1, none⟩ = false := (hb.frozen (by first | omega | (simp <;> omega))).trans (by (simp (maxDischargeDepth := 8) [go_sem, World.cell?_alloc_past, ltk2, ltk3, ltk4, ltk5, ltk6, ltk7, ltk8, ltk9, *]))
        replace cf2 : w3.frozen? ⟨w.heap.size, 2, none⟩ = false := (hb.frozen (by first | omega | (simp <;> omega))).trans (by (simp (maxDischargeDepth := 8) [go_sem, World.cell?_alloc_past, ltk2, ltk3, ltk4, ltk5, ltk6, ltk7, ltk8, ltk9, *]))
        replace cf3 : w3.frozen? ⟨w.heap.size, 3, none⟩ = false := (hb.frozen (by first | omega | (simp <;> omega))).trans (by (simp (maxDischargeDepth := 8) [go_sem, World.cell?_alloc_past, ltk2, ltk3, ltk4, ltk5, ltk6, ltk7, ltk8, ltk9, *]))
        replace cf4 : w3.frozen? ⟨w.heap.size, 4, none⟩ = false := (hb.frozen (by first | omega | (simp <;> omega))).trans (by (simp (maxDischargeDepth := 8) [go_sem, World.cell?_alloc_past, ltk2, ltk3, ltk4, ltk5, ltk6, ltk7, ltk8, ltk9, *]))
        replace cf5 : w3.frozen? ⟨w.heap.size, 5, none⟩ = false := (hb.frozen (by first | omega | (simp <;> omega))).trans (by (simp (maxDischargeDepth := 8) [go_sem, World.cell?_alloc_past, ltk2, ltk3, ltk4, ltk5, ltk6, ltk7, ltk8, ltk9, *]))
        replace r0 : w3.cell? ⟨w.heap.size + 1, 0, none⟩ = some (.int .i64 X0) := (hb.cell (by first | omega | (simp <;> omega))).trans (by (simp (maxDischargeDepth := 8) [go_sem, World.cell?_alloc_past, ltk2, ltk3, ltk4, ltk5, ltk6, ltk7, ltk8, ltk9, *]))
        replace r1 : w3.cell? ⟨w.heap.size + 1, 1, none⟩ = some (.int .i64 Y0) := (hb.cell (by first | omega | (simp <;> omega))).trans (by (simp (maxDischargeDepth := 8) [go_sem, World.cell?_alloc_past, ltk2, ltk3, ltk4, ltk5, ltk6, ltk7, ltk8, ltk9, *]))
        replace r2 : w3.cell? ⟨w.heap.size + 1, 2, none⟩ = some (.int .i64 X1) := (hb.cell (by first | omega | (simp <;> omega))).trans (by (simp (maxDischargeDepth := 8) [go_sem, World.cell?_alloc_past, ltk2, ltk3, ltk4, ltk5, ltk6, ltk7, ltk8, ltk9, *]))
        replace r3 : w3.cell? ⟨w.heap.size + 1, 3, none⟩ = some (.int .i64 Y1) := (hb.cell (by first | omega | (simp <;> omega))).trans (by (simp (maxDischargeDepth := 8) [go_sem, World.cell?_alloc_past, ltk2, ltk3, ltk4, ltk5, ltk6, ltk7, ltk8, ltk9, *]))
        replace r4 : w3.cell? ⟨w.heap.size + 1, 4, none⟩ = some (.int .i64 0) := (hb.cell (by first | omega | (simp <;> omega))).trans (by (simp (maxDischargeDepth := 8) [go_sem, World.cell?_alloc_past, ltk2, ltk3, ltk4, ltk5, ltk6, ltk7, ltk8, ltk9, *]))
        replace r5 : w3.cell? ⟨w.heap.size + 1, 5, none⟩ = some (.int .i64 0) := (hb.cell (by first | omega | (simp <;> omega))).trans (by (simp (maxDischargeDepth := 8) [go_sem, World.cell?_alloc_past, ltk2, ltk3, ltk4, ltk5, ltk6, ltk7, ltk8, ltk9, *]))
        replace rf0 : w3.frozen? ⟨w.heap.size + 1, 0, none⟩ = false := (hb.frozen (by first | omega | (simp <;> omega))).trans (by (simp (maxDischargeDepth := 8) [go_sem, World.cell?_alloc_past, ltk2, ltk3, ltk4, ltk5, ltk6, ltk7, ltk8, ltk9, *]))
        replace rf1 : w3.frozen? ⟨w.heap.size + 1, 1, none⟩ = false := (hb.frozen (by first | omega | (simp <;> omega))).trans (by (simp (maxDischargeDepth := 8) [go_sem, World.cell?_alloc_past, ltk2, ltk3, ltk4, ltk5, ltk6, ltk7, ltk8, ltk9, *]))
        replace rf2 : w3.frozen? ⟨w.heap.size + 1, 2, none⟩ = false := (hb.frozen (by first | omega | (simp <;> omega))).trans (by (simp (maxDischargeDepth := 8) [go_sem, World.cell?_alloc_past, ltk2, ltk3, ltk4, ltk5, ltk6, ltk7, ltk8, ltk9, *]))
        replace rf3 : w3.frozen? ⟨w.heap.size + 1, 3, none⟩ = false := (hb.frozen (by first | omega | (simp <;> omega))).trans (by (simp (maxDischargeDepth := 8) [go_sem, World.cell?_alloc_past, ltk2, ltk3, ltk4, ltk5, ltk6, ltk7, ltk8, ltk9, *]))
        replace rf4 : w3.frozen? ⟨w.heap.size + 1, 4, none⟩ = false := (hb.frozen (by first | omega | (simp <;> omega))).trans (by (simp (maxDischargeDepth := 8) [go_sem, World.cell?_alloc_past, ltk2, ltk3, ltk4, ltk5, ltk6, ltk7, ltk8, ltk9, *]))
        replace rf5 : w3.frozen? ⟨w.heap.size + 1, 5, none⟩ = false := (hb.frozen (by first | omega | (simp <;> omega))).trans (by (simp (maxDischargeDepth := 8) [go_sem, World.cell?_alloc_past, ltk2, ltk3, ltk4, ltk5, ltk6, ltk7, ltk8, ltk9, *]))
        clear hb HB2
        have zy0_3 : w.heap.size < w3.heap.size := by omega
        have zy1_3 : w.heap.size + 1 < w3.heap.size := by omega
        clear A2
        go_wp2_with fail
        rw [rounds_succ]
        go_wp2
        refine bodyPost_ret (by simp [results, Try.results120, go_sem, ext_cell, World.cell?_alloc_past, ltk2, ltk3, ltk4, ltk5, ltk6, ltk7, ltk8, ltk9, *]; try rfl) rfl ?_
        exact ⟨rfl, by (repeat (first | with_reducible exact HB3 | (with_reducible refine bext ?_ _ _) | (with_reducible refine below_drewN ?_ _) | (with_reducible refine Below.drew ?_) | (with_reducible refine bal ?_ _) | (with_reducible refine bset ?_ (by first | omega | (simp <;> omega)) _)))⟩
      · rw [show fsI 0 0 E2 = E2 from rfl, vzn h2, vzn h2, vzn h2, vzn h2, vzn h2, vzn h2]
        have e2 : (E2 == 0) = false := by simp [h2]
        clear h2
        have dAl := dAl; have dSt := dSt; have xC := ext_cell; have xF := ext_frozen; have xS := ext_set; have xN := ext_drewN; have xD := ext_drew; have xL := ext_lt; have xE := ext_ne; have xG := ext_nr; have xX := ext_ext; have xL1 := ext_lt1; have xL2 := ext_lt2; have xL3 := ext_lt3; have xM0 := ext_le0; have xM1 := ext_le1; have xM2 := ext_le2
        go_enter Try.func120, Try.ntmps120
        go_wp2_with fail
        refine wp_loop_rounds 4 ?_
        rw [rounds_succ]
        go_wp2_with fail
        with_reducible refine (A0 _ ?hw0).mono ?_
        case hw0 =>
          refine Below.trans hB (Below.mono ?_ hle)
          (repeat (first | with_reducible exact b0 _ | (with_reducible refine bal ?_ _) | (with_reducible refine below_drewN ?_ _) | (with_reducible refine Below.drew ?_) | (with_reducible refine bset ?_ (by first | omega | (simp <;> omega)) _)))
        rintro e w1 ⟨rfl, hb⟩
        have HB1 : Below w.heap.size w w1 := by
          refine Below.trans ?_ (hb.mono ?_)
          · (repeat (first | with_reducible exact b0 _ | (with_reducible refine bal ?_ _) | (with_reducible refine below_drewN ?_ _) | (with_reducible refine Below.drew ?_) | (with_reducible refine bset ?_ (by first | omega | (simp <;> omega)) _)))
          · first | omega | (simp <;> omega)
        have zs1 : w.heap.size + 2 < w1.heap.size + 1 := by have := hb.size; (try simp at this); omega
        have c0 : w1.cell? ⟨w.heap.size, 0, none⟩ = some (.int .i64 0) := (hb.cell (by first | omega | (simp <;> omega))).trans (by (simp (maxDischargeDepth := 8) [go_sem, World.cell?_alloc_past, ltk2, ltk3, ltk4, ltk5, ltk6, ltk7, ltk8, ltk9, *]))
        have c1 : w1.cell? ⟨w.heap.size, 1, none⟩ = some (.int .i64 0) := (hb.cell (by first | omega | (simp <;> omega))).trans (by (simp (maxDischargeDepth := 8) [go_sem, World.cell?_alloc_past, ltk2, ltk3, ltk4, ltk5, ltk6, ltk7, ltk8, ltk9, *]))
        have c2 : w1.cell? ⟨w.heap.size, 2, none⟩ = some (.int .i64 0) := (hb.cell (by first | omega | (simp <;> omega))).trans (by (simp (maxDischargeDepth := 8) [go_sem, World.cell?_alloc_past, ltk2, ltk3, ltk4, ltk5, ltk6, ltk7, ltk8, ltk9, *]))
        have c3 : w1.cell? ⟨w.heap.size, 3, none⟩ = some (.int .i64 0) := (hb.cell (by first | omega | (simp <;> omega))).trans (by (simp (maxDischargeDepth := 8) [go_sem, World.cell?_alloc_past, ltk2, ltk3, ltk4, ltk5, ltk6, ltk7, ltk8, ltk9, *]))
        have c4 : w1.cell? ⟨w.heap.size, 4, none⟩ = some (.int .i64 0) := (hb.cell (by first | omega | (simp <;> omega))).trans (by (simp (maxDischargeDepth := 8) [go_sem, World.cell?_alloc_past, ltk2, ltk3, ltk4, ltk5, ltk6, ltk7, ltk8, ltk9, *]))
        have c5 : w1.cell? ⟨w.heap.size, 5, none⟩ = some (.int .i64 0) := (hb.cell (by first | omega | (simp <;> omega))).trans (by (simp (maxDischargeDepth := 8) [go_sem, World.cell?_alloc_past, ltk2, ltk3, ltk4, ltk5, ltk6, ltk7, ltk8, ltk9, *]))
        have cf0 : w1.frozen? ⟨w.heap.size, 0, none⟩ = false := (hb.frozen (by first | omega | (simp <;> omega))).trans (by (simp (maxDischargeDepth := 8) [go_sem, World.cell?_alloc_past, ltk2, ltk3, ltk4, ltk5, ltk6, ltk7, ltk8, ltk9, *]))
        have cf1 : w1.frozen? ⟨w.heap.size, 1, none⟩ = false := (hb.frozen (by first | omega | (simp <;> omega))).trans (by (simp (maxDischargeDepth := 8) [go_sem, World.cell?_alloc_past, ltk2, ltk3, ltk4, ltk5, ltk6, ltk7, ltk8, ltk9, *]))
        have cf2 : w1.frozen? ⟨w.heap.size, 2, none⟩ = false := (hb.frozen (by first | omega | (simp <;> omega))).trans (by (simp (maxDischargeDepth := 8) [go_sem, World.cell?_alloc_past, ltk2, ltk3, ltk4, ltk5, ltk6, ltk7, ltk8, ltk9, *]))
        have cf3 : w1.frozen? ⟨w.heap.size, 3, none⟩ = false := (hb.frozen (by first | omega | (simp <;> omega))).trans (by (simp (maxDischargeDepth := 8) [go_sem, World.cell?_alloc_past, ltk2, ltk3, ltk4, ltk5, ltk6, ltk7, ltk8, ltk9, *]))
        have cf4 : w1.frozen? ⟨w.heap.size, 4, none⟩ = false := (hb.frozen (by first | omega | (simp <;> omega))).trans (by (simp (maxDischargeDepth := 8) [go_sem, World.cell?_alloc_past, ltk2, ltk3, ltk4, ltk5, ltk6, ltk7, ltk8, ltk9, *]))
        have cf5 : w1.frozen? ⟨w.heap.size, 5, none⟩ = false := (hb.frozen (by first | omega | (simp <;> omega))).trans (by (simp (maxDischargeDepth := 8) [go_sem, World.cell?_alloc_past, ltk2, ltk3, ltk4, ltk5, ltk6, ltk7, ltk8, ltk9, *]))
        have r0 : w1.cell? ⟨w.heap.size + 1, 0, none⟩ = some (.int .i64 0) := (hb.cell (by first | omega | (simp <;> omega))).trans (by (simp (maxDischargeDepth := 8) [go_sem, World.cell?_alloc_past, ltk2, ltk3, ltk4, ltk5, ltk6, ltk7, ltk8, ltk9, *]))
        have r1 : w1.cell? ⟨w.heap.size + 1, 1, none⟩ = some (.int .i64 0) := (hb.cell (by first | omega | (simp <;> omega))).trans (by (simp (maxDischargeDepth := 8) [go_sem, World.cell?_alloc_past, ltk2, ltk3, ltk4, ltk5, ltk6, ltk7, ltk8, ltk9, *]))
        have r2 : w1.cell? ⟨w.heap.size + 1, 2, none⟩ = some (.int .i64 0) := (hb.cell (by first | omega | (simp <;> omega))).trans (by (simp (maxDischargeDepth := 8) [go_sem, World.cell?_alloc_past, ltk2, ltk3, ltk4, ltk5, ltk6, ltk7, ltk8, ltk9, *]))
        have r3 : w1.cell? ⟨w.heap.size + 1, 3, none⟩ = some (.int .i64 0) := (hb.cell (by first | omega | (simp <;> omega))).trans (by (simp (maxDischargeDepth := 8) [go_sem, World.cell?_alloc_past, ltk2, ltk3, ltk4, ltk5, ltk6, ltk7, ltk8, ltk9, *]))
        have r4 : w1.cell? ⟨w.heap.size + 1, 4, none⟩ = some (.int .i64 0) := (hb.cell (by first | omega | (simp <;> omega))).trans (by (simp (maxDischargeDepth := 8) [go_sem, World.cell?_alloc_past, ltk2, ltk3, ltk4, ltk5, ltk6, ltk7, ltk8, ltk9, *]))
        have r5 : w1.cell? ⟨w.heap.size + 1, 5, none⟩ = some (.int .i64 0) := (hb.cell (by first | omega | (simp <;> omega))).trans (by (simp (maxDischargeDepth := 8) [go_sem, World.cell?_alloc_past, ltk2, ltk3, ltk4, ltk5, ltk6, ltk7, ltk8, ltk9, *]))
        have rf0 : w1.frozen? ⟨w.heap.size + 1, 0, none⟩ = false := (hb.frozen (by first | omega | (simp <;> omega))).trans (by (simp (maxDischargeDepth := 8) [go_sem, World.cell?_alloc_past, ltk2, ltk3, ltk4, ltk5, ltk6, ltk7, ltk8, ltk9, *]))
        have rf1 : w1.frozen? ⟨w.heap.size + 1, 1, none⟩ = false := (hb.frozen (by first | omega | (simp <;> omega))).trans (by (simp (maxDischargeDepth := 8) [go_sem, World.cell?_alloc_past, ltk2, ltk3, ltk4, ltk5, ltk6, ltk7, ltk8, ltk9, *]))
        have rf2 : w1.frozen? ⟨w.heap.size + 1, 2, none⟩ = false := (hb.frozen (by first | omega | (simp <;> omega))).trans (by (simp (maxDischargeDepth := 8) [go_sem, World.cell?_alloc_past, ltk2, ltk3, ltk4, ltk5, ltk6, ltk7, ltk8, ltk9, *]))
        have rf3 : w1.frozen? ⟨w.heap.size + 1, 3, none⟩ = false := (hb.frozen (by first | omega | (simp <;> omega))).trans (by (simp (maxDischargeDepth := 8) [go_sem, World.cell?_alloc_past, ltk2, ltk3, ltk4, ltk5, ltk6, ltk7, ltk8, ltk9, *]))
        have rf4 : w1.frozen? ⟨w.heap.size + 1, 4, none⟩ = false := (hb.frozen (by first | omega | (simp <;> omega))).trans (by (simp (maxDischargeDepth := 8) [go_sem, World.cell?_alloc_past, ltk2, ltk3, ltk4, ltk5, ltk6, ltk7, ltk8, ltk9, *]))
        have rf5 : w1.frozen? ⟨w.heap.size + 1, 5, none⟩ = false := (hb.frozen (by first | omega | (simp <;> omega))).trans (by (simp (maxDischargeDepth := 8) [go_sem, World.cell?_alloc_past, ltk2, ltk3, ltk4, ltk5, ltk6, ltk7, ltk8, ltk9, *]))
        clear hb
        have zy0_1 : w.heap.size < w1.heap.size := by omega
        have zy1_1 : w.heap.size + 1 < w1.heap.size := by omega
        clear A0
        go_wp2_with fail
        rw [rounds_succ]
        go_wp2_with fail
        with_reducible refine (A1 _ ?hw1).mono ?_
        case hw1 =>
          refine Below.trans hB (Below.mono ?_ hle)
          (repeat (first | with_reducible exact HB1 | (with_reducible refine bal ?_ _) | (with_reducible refine below_drewN ?_ _) | (with_reducible refine Below.drew ?_) | (with_reducible refine bset ?_ (by first | omega | (simp <;> omega)) _)))
        rintro e w2 ⟨rfl, hb⟩
        have HB2 : Below w.heap.size w w2 := by
          refine Below.trans ?_ (hb.mono ?_)
          · (repeat (first | with_reducible exact HB1 | (with_reducible refine bal ?_ _) | (with_reducible refine below_drewN ?_ _) | (with_reducible refine Below.drew ?_) | (with_reducible refine bset ?_ (by first | omega | (simp <;> omega)) _)))
          · first | omega | (simp <;> omega)
        have zs2 : w1.heap.size + 0 < w2.heap.size + 1 := by have := hb.size; (try simp at this); omega
        replace c0 : w2.cell? ⟨w.heap.size, 0, none⟩ = some (.int .i64 0) := (hb.cell (by first | omega | (simp <;> omega))).trans (by (simp (maxDischargeDepth := 8) [go_sem, World.cell?_alloc_past, ltk2, ltk3, ltk4, ltk5, ltk6, ltk7, ltk8, ltk9, *]))
        replace c1 : w2.cell? ⟨w.heap.size, 1, none⟩ = some (.int .i64 0) := (hb.cell (by first | omega | (simp <;> omega))).trans (by (simp (maxDischargeDepth := 8) [go_sem, World.cell?_alloc_past, ltk2, ltk3, ltk4, ltk5, ltk6, ltk7, ltk8, ltk9, *]))
        replace c2 : w2.cell? ⟨w.heap.size, 2, none⟩ = some (.int .i64 0) := (hb.cell (by first | omega | (simp <;> omega))).trans (by (simp (maxDischargeDepth := 8) [go_sem, World.cell?_alloc_past, ltk2, ltk3, ltk4, ltk5, ltk6, ltk7, ltk8, ltk9, *]))
        replace c3 : w2.cell? ⟨w.heap.size, 3, none⟩ = some (.int .i64 0) := (hb.cell (by first | omega | (simp <;> omega))).trans (by (simp (maxDischargeDepth := 8) [go_sem, World.cell?_alloc_past, ltk2, ltk3, ltk4, ltk5, ltk6, ltk7, ltk8, ltk9, *]))
        replace c4 : w2.cell? ⟨w.heap.size, 4, none⟩ = some (.int .i64 0) := (hb.cell (by first | omega | (simp <;> omega))).trans (by (simp (maxDischargeDepth := 8) [go_sem, World.cell?_alloc_past, ltk2, ltk3, ltk4, ltk5, ltk6, ltk7, ltk8, ltk9, *]))
        replace c5 : w2.cell? ⟨w.heap.size, 5, none⟩ = some (.int .i64 0) := (hb.cell (by first | omega | (simp <;> omega))).trans (by (simp (maxDischargeDepth := 8) [go_sem, World.cell?_alloc_past, ltk2, ltk3, ltk4, ltk5, ltk6, ltk7, ltk8, ltk9, *]))
        replace cf0 : w2.frozen? ⟨w.heap.size, 0, none⟩ = false := (hb.frozen (by first | omega | (simp <;> omega))).trans (by (simp (maxDischargeDepth := 8) [go_sem, World.cell?_alloc_past, ltk2, ltk3, ltk4, ltk5, ltk6, ltk7, ltk8, ltk9, *]))
        replace cf1 : w2.frozen? ⟨w.heap.size, 1, none⟩ = false := (hb.frozen (by first | omega | (simp <;> omega))).trans (by (simp (maxDischargeDepth := 8) [go_sem, World.cell?_alloc_past, ltk2, ltk3, ltk4, ltk5, ltk6, ltk7, ltk8, ltk9, *]))
        replace cf2 : w2.frozen? ⟨w.heap.size, 2, none⟩ = false := (hb.frozen (by first | omega | (simp <;> omega))).trans (by (simp (maxDischargeDepth := 8) [go_sem, World.cell?_alloc_past, ltk2, ltk3, ltk4, ltk5, ltk6, ltk7, ltk8, ltk9, *]))
        replace cf3 : w2.frozen? ⟨w.heap.size, 3, none⟩ = false := (hb.frozen (by first | omega | (simp <;> omega))).trans (by (simp (maxDischargeDepth := 8) [go_sem, World.cell?_alloc_past, ltk2, ltk3, ltk4, ltk5, ltk6, ltk7, ltk8, ltk9, *]))
        replace cf4 : w2.frozen? ⟨w.heap.size, 4, none⟩ = false := (hb.frozen (by first | omega | (simp <;> omega))).trans (by (simp (maxDischargeDepth := 8) [go_sem, World.cell?_alloc_past, ltk2, ltk3, ltk4, ltk5, ltk6, ltk7, ltk8, ltk9, *]))
        replace cf5 : w2.frozen? ⟨w.heap.size, 5, none⟩ = false := (hb.frozen (by first | omega | (simp <;> omega))).trans (by (simp (maxDischargeDepth := 8) [go_sem, World.cell?_alloc_past, ltk2, ltk3, ltk4, ltk5, ltk6, ltk7, ltk8, ltk9, *]))
        replace r0 : w2.cell? ⟨w.heap.size + 1, 0, none⟩ = some (.int .i64 X0) := (hb.cell (by first | omega | (simp <;> omega))).trans (by (simp (maxDischargeDepth := 8) [go_sem, World.cell?_alloc_past, ltk2, ltk3, ltk4, ltk5, ltk6, ltk7, ltk8, ltk9, *]))
        replace r1 : w2.cell? ⟨w.heap.size + 1, 1, none⟩ = some (.int .i64 Y0) := (hb.cell (by first | omega | (simp <;> omega))).trans (by (simp (maxDischargeDepth := 8) [go_sem, World.cell?_alloc_past, ltk2, ltk3, ltk4, ltk5, ltk6, ltk7, ltk8, ltk9, *]))
        replace r2 : w2.cell? ⟨w.heap.size + 1, 2, none⟩ = some (.int .i64 0) := (hb.cell (by first | omega | (simp <;> omega))).trans (by (simp (maxDischargeDepth := 8) [go_sem, World.cell?_alloc_past, ltk2, ltk3, ltk4, ltk5, ltk6, ltk7, ltk8, ltk9, *]))
        replace r3 : w2.cell? ⟨w.heap.size + 1, 3, none⟩ = some (.int .i64 0) := (hb.cell (by first | omega | (simp <;> omega))).trans (by (simp (maxDischargeDepth := 8) [go_sem, World.cell?_alloc_past, ltk2, ltk3, ltk4, ltk5, ltk6, ltk7, ltk8, ltk9, *]))
        replace r4 : w2.cell? ⟨w.heap.size + 1, 4, none⟩ = some (.int .i64 0) := (hb.cell (by first | omega | (simp <;> omega))).trans (by (simp (maxDischargeDepth := 8) [go_sem, World.cell?_alloc_past, ltk2, ltk3, ltk4, ltk5, ltk6, ltk7, ltk8, ltk9, *]))
        replace r5 : w2.cell? ⟨w.heap.size + 1, 5, none⟩ = some (.int .i64 0) := (hb.cell (by first | omega | (simp <;> omega))).trans (by (simp (maxDischargeDepth := 8) [go_sem, World.cell?_alloc_past, ltk2, ltk3, ltk4, ltk5, ltk6, ltk7, ltk8, ltk9, *]))
        replace rf0 : w2.frozen? ⟨w.heap.size + 1, 0, none⟩ = false := (hb.frozen (by first | omega | (simp <;> omega))).trans (by (simp (maxDischargeDepth := 8) [go_sem, World.cell?_alloc_past, ltk2, ltk3, ltk4, ltk5, ltk6, ltk7, ltk8, ltk9, *]))
        replace rf1 : w2.frozen? ⟨w.heap.size + 1, 1, none⟩ = false := (hb.frozen (by first | omega | (simp <;> omega))).trans (by (simp (maxDischargeDepth := 8) [go_sem, World.cell?_alloc_past, ltk2, ltk3, ltk4, ltk5, ltk6, ltk7, ltk8, ltk9, *]))
        replace rf2 : w2.frozen? ⟨w.heap.size + 1, 2, none⟩ = false := (hb.frozen (by first | omega | (simp <;> omega))).trans (by (simp (maxDischargeDepth := 8) [go_sem, World.cell?_alloc_past, ltk2, ltk3, ltk4, ltk5, ltk6, ltk7, ltk8, ltk9, *]))
        replace rf3 : w2.frozen? ⟨w.heap.size + 1, 3, none⟩ = false := (hb.frozen (by first | omega | (simp <;> omega))).trans (by (simp (maxDischargeDepth := 8) [go_sem, World.cell?_alloc_past, ltk2, ltk3, ltk4, ltk5, ltk6, ltk7, ltk8, ltk9, *]))
        replace rf4 : w2.frozen? ⟨w.heap.size + 1, 4, none⟩ = false := (hb.frozen (by first | omega | (simp <;> omega))).trans (by (simp (maxDischargeDepth := 8) [go_sem, World.cell?_alloc_past, ltk2, ltk3, ltk4, ltk5, ltk6, ltk7, ltk8, ltk9, *]))
        replace rf5 : w2.frozen? ⟨w.heap.size + 1, 5, none⟩ = false := (hb.frozen (by first | omega | (simp <;> omega))).trans (by (simp (maxDischargeDepth := 8) [go_sem, World.cell?_alloc_past, ltk2, ltk3, ltk4, ltk5, ltk6, ltk7, ltk8, ltk9, *]))
        clear hb HB1
        have zy0_2 : w.heap.size < w2.heap.size := by omega
        have zy1_2 : w.heap.size + 1 < w2.heap.size := by omega
        clear A1
        go_wp2_with fail
        rw [rounds_succ]
        go_wp2_with fail
        with_reducible refine (A2 _ ?hw2).mono ?_
        case hw2 =>
          refine Below.trans hB (Below.mono ?_ hle)
          (repeat (first | with_reducible exact HB2 | (with_reducible refine bal ?_ _) | (with_reducible refine below_drewN ?_ _) | (with_reducible refine Below.drew ?_) | (with_reducible refine bset ?_ (by first | omega | (simp <;> omega)) _)))
        rintro e w3 ⟨rfl, hb⟩
        have HB3 : Below w.heap.size w w3 := by
          refine Below.trans ?_ (hb.mono ?_)
          · (repeat (first | with_reducible exact HB2 | (with_reducible refine bal ?_ _) | (with_reducible refine below_drewN ?_ _) | (with_reducible refine Below.drew ?_) | (with_reducible refine bset ?_ (by first | omega | (simp <;> omega)) _)))
          · first | omega | (simp <;> omega)
        have zs3 : w2.heap.size + 0 < w3.heap.size + 1 := by have := hb.size; (try simp at this); omega
        replace c0 : w3.cell? ⟨w.heap.size, 0, none⟩ = some (.int .i64 0) := (hb.cell (by first | omega | (simp <;> omega))).trans (by (simp (maxDischargeDepth := 8) [go_sem, World.cell?_alloc_past, ltk2, ltk3, ltk4, ltk5, ltk6, ltk7, ltk8, ltk9, *]))
        replace c1 : w3.cell? ⟨w.heap.size, 1, none⟩ = some (.int .i64 0) := (hb.cell (by first | omega | (simp <;> omega))).trans (by (simp (maxDischargeDepth := 8) [go_sem, World.cell?_alloc_past, ltk2, ltk3, ltk4, ltk5, ltk6, ltk7, ltk8, ltk9, *]))
        replace c2 : w3.cell? ⟨w.heap.size, 2, none⟩ = some (.int .i64 0) := (hb.cell (by first | omega | (simp <;> omega))).trans (by (simp (maxDischargeDepth := 8) [go_sem, World.cell?_alloc_past, ltk2, ltk3, ltk4, ltk5, ltk6, ltk7, ltk8, ltk9, *]))
        replace c3 : w3.cell? ⟨w.heap.size, 3, none⟩ = some (.int .i64 0) := (hb.cell (by first | omega | (simp <;> omega))).trans (by (simp (maxDischargeDepth := 8) [go_sem, World.cell?_alloc_past, ltk2, ltk3, ltk4, ltk5, ltk6, ltk7, ltk8, ltk9, *]))
        replace c4 : w3.cell? ⟨w.heap.size, 4, none⟩ = some (.int .i64 0) := (hb.cell (by first | omega | (simp <;> omega))).trans (by (simp (maxDischargeDepth := 8) [go_sem, World.cell?_alloc_past, ltk2, ltk3, ltk4, ltk5, ltk6, ltk7, ltk8, ltk9, *]))
        replace c5 : w3.cell? ⟨w.heap.size, 5, none⟩ = some (.int .i64 0) := (hb.cell (by first | omega | (simp <;> omega))).trans (by (simp (maxDischargeDepth := 8) [go_sem, World.cell?_alloc_past, ltk2, ltk3, ltk4, ltk5, ltk6, ltk7, ltk8, ltk9, *]))
        replace cf0 : w3.frozen? ⟨w.heap.size, 0, none⟩ = false := (hb.frozen (by first | omega | (simp <;> omega))).trans (by (simp (maxDischargeDepth := 8) [go_sem, World.cell?_alloc_past, ltk2, ltk3, ltk4, ltk5, ltk6, ltk7, ltk8, ltk9, *]))
        replace cf1 : w3.frozen? ⟨w.heap.size, 1, none⟩ = false := (hb.frozen (by first | omega | (simp <;> omega))).trans (by (simp (maxDischargeDepth := 8) [go_sem, World.cell?_alloc_past, ltk2, ltk3, ltk4, ltk5, ltk6, ltk7, ltk8, ltk9, *]))
        replace cf2 : w3.frozen? ⟨w.heap.size, 2, none⟩ = false := (hb.frozen (by first | omega | (simp <;> omega))).trans (by (simp (maxDischargeDepth := 8) [go_sem, World.cell?_alloc_past, ltk2, ltk3, ltk4, ltk5, ltk6, ltk7, ltk8, ltk9, *]))
        replace cf3 : w3.frozen? ⟨w.heap.size, 3, none⟩ = false := (hb.frozen (by first | omega | (simp <;> omega))).trans (by (simp (maxDischargeDepth := 8) [go_sem, World.cell?_alloc_past, ltk2, ltk3, ltk4, ltk5, ltk6, ltk7, ltk8, ltk9, *]))
        replace cf4 : w3.frozen? ⟨w.heap.size, 4, none⟩ = false := (hb.frozen (by first | omega | (simp <;> omega))).trans (by (simp (maxDischargeDepth := 8) [go_sem, World.cell?_alloc_past, ltk2, ltk3, ltk4, ltk5, ltk6, ltk7, ltk8, ltk9, *]))
        replace cf5 : w3.frozen? ⟨w.heap.size, 5, none⟩ = false := (hb.frozen (by first | omega | (simp <;> omega))).trans (by (simp (maxDischargeDepth := 8) [go_sem, World.cell?_alloc_past, ltk2, ltk3, ltk4, ltk5, ltk6, ltk7, ltk8, ltk9, *]))
        replace r0 : w3.cell? ⟨w.heap.size + 1, 0, none⟩ = some (.int .i64 X0) := (hb.cell (by first | omega | (simp <;> omega))).trans (by (simp (maxDischargeDepth := 8) [go_sem, World.cell?_alloc_past, ltk2, ltk3, ltk4, ltk5, ltk6, ltk7, ltk8, ltk9, *]))
        replace r1 : w3.cell? ⟨w.heap.size + 1, 1, none⟩ = some (.int .i64 Y0) := (hb.cell (by first | omega | (simp <;> omega))).trans (by (simp (maxDischargeDepth := 8) [go_sem, World.cell?_alloc_past, ltk2, ltk3, ltk4, ltk5, ltk6, ltk7, ltk8, ltk9, *]))
        replace r2 : w3.cell? ⟨w.heap.size + 1, 2, none⟩ = some (.int .i64 X1) := (hb.cell (by first | omega | (simp <;> omega))).trans (by (simp (maxDischargeDepth := 8) [go_sem, World.cell?_alloc_past, ltk2, ltk3, ltk4, ltk5, ltk6, ltk7, ltk8, ltk9, *]))
        replace r3 : w3.cell? ⟨w.heap.size + 1, 3, none⟩ = some (.int .i64 Y1) := (hb.cell (by first | omega | (simp <;> omega))).trans (by (simp (maxDischargeDepth := 8) [go_sem, World.cell?_alloc_past, ltk2, ltk3, ltk4, ltk5, ltk6, ltk7, ltk8, ltk9, *]))
        replace r4 : w3.cell? ⟨w.heap.size + 1, 4, none⟩ = some (.int .i64 0) := (hb.cell (by first | omega | (simp <;> omega))).trans (by (simp (maxDischargeDepth := 8) [go_sem, World.cell?_alloc_past, ltk2, ltk3, ltk4, ltk5, ltk6, ltk7, ltk8, ltk9, *]))
        replace r5 : w3.cell? ⟨w.heap.size + 1, 5, none⟩ = some (.int .i64 0) := (hb.cell (by first | omega | (simp <;> omega))).trans (by (simp (maxDischargeDepth := 8) [go_sem, World.cell?_alloc_past, ltk2, ltk3, ltk4, ltk5, ltk6, ltk7, ltk8, ltk9, *]))
        replace rf0 : w3.frozen? ⟨w.heap.size + 1, 0, none⟩ = false := (hb.frozen (by first | omega | (simp <;> omega))).trans (by (simp (maxDischargeDepth := 8) [go_sem, World.cell?_alloc_past, ltk2, ltk3, ltk4, ltk5, ltk6, ltk7, ltk8, ltk9, *]))
        replace rf1 : w3.frozen? ⟨w.heap.size + 1, 1, none⟩ = false := (hb.frozen (by first | omega | (simp <;> omega))).trans (by (simp (maxDischargeDepth := 8) [go_sem, World.cell?_alloc_past, ltk2, ltk3, ltk4, ltk5, ltk6, ltk7, ltk8, ltk9, *]))
        replace rf2 : w3.frozen? ⟨w.heap.size + 1, 2, none⟩ = false := (hb.frozen (by first | omega | (simp <;> omega))).trans (by (simp (maxDischargeDepth := 8) [go_sem, World.cell?_alloc_past, ltk2, ltk3, ltk4, ltk5, ltk6, ltk7, ltk8, ltk9, *]))
        replace rf3 : w3.frozen? ⟨w.heap.size + 1, 3, none⟩ = false := (hb.frozen (by first | omega | (simp <;> omega))).trans (by (simp (maxDischargeDepth := 8) [go_sem, World.cell?_alloc_past, ltk2, ltk3, ltk4, ltk5, ltk6, ltk7, ltk8, ltk9, *]))
        replace rf4 : w3.frozen? ⟨w.heap.size + 1, 4, none⟩ = false := (hb.frozen (by first | omega | (simp <;> omega))).trans (by (simp (maxDischargeDepth := 8) [go_sem, World.cell?_alloc_past, ltk2, ltk3, ltk4, ltk5, ltk6, ltk7, ltk8, ltk9, *]))
        replace rf5 : w3.frozen? ⟨w.heap.size + 1, 5, none⟩ = false := (hb.frozen (by first | omega | (simp <;> omega))).trans (by (simp (maxDischargeDepth := 8) [go_sem, World.cell?_alloc_past, ltk2, ltk3, ltk4, ltk5, ltk6, ltk7, ltk8, ltk9, *]))
        clear hb HB2
        have zy0_3 : w.heap.size < w3.heap.size := by omega
        have zy1_3 : w.heap.size + 1 < w3.heap.size := by omega
        clear A2
        go_wp2
        refine bodyPost_ret (by simp [results, Try.results120, go_sem, ext_cell, World.cell?_alloc_past, ltk2, ltk3, ltk4, ltk5, ltk6, ltk7, ltk8, ltk9, *]; try rfl) rfl ?_
        exact ⟨rfl, by (repeat (first | with_reducible exact HB3 | (with_reducible refine bext ?_ _ _) | (with_reducible refine below_drewN ?_ _) | (with_reducible refine Below.drew ?_) | (with_reducible refine bal ?_ _) | (with_reducible refine bset ?_ (by first | omega | (simp <;> omega)) _)))⟩
    · rw [show fsI 0 E1 E2 = E1 by unfold fsI; rw [if_pos rfl, if_neg h1], vzn h1, vzn h1, vzn h1, vzn h1, vzn h1, vzn h1]
      have e1 : (E1 == 0) = false := by simp [h1]
      clear h1 A2
      have dAl := dAl; have dSt := dSt; have xC := ext_cell; have xF := ext_frozen; have xS := ext_set; have xN := ext_drewN; have xD := ext_drew; have xL := ext_lt; have xE := ext_ne; have xG := ext_nr; have xX := ext_ext; have xL1 := ext_lt1; have xL2 := ext_lt2; have xL3 := ext_lt3; have xM0 := ext_le0; have xM1 := ext_le1; have xM2 := ext_le2
      go_enter Try.func120, Try.ntmps120
      go_wp2_with fail
      refine wp_loop_rounds 4 ?_
      rw [rounds_succ]
      go_wp2_with fail
      with_reducible refine (A0 _ ?hw0).mono ?_
      case hw0 =>
        refine Below.trans hB (Below.mono ?_ hle)
        (repeat (first | with_reducible exact b0 _ | (with_reducible refine bal ?_ _) | (with_reducible refine below_drewN ?_ _) | (with_reducible refine Below.drew ?_) | (with_reducible refine bset ?_ (by first | omega | (simp <;> omega)) _)))
      rintro e w1 ⟨rfl, hb⟩
      have HB1 : Below w.heap.size w w1 := by
        refine Below.trans ?_ (hb.mono ?_)
        · (repeat (first | with_reducible exact b0 _ | (with_reducible refine bal ?_ _) | (with_reducible refine below_drewN ?_ _) | (with_reducible refine Below.drew ?_) | (with_reducible refine bset ?_ (by first | omega | (simp <;> omega)) _)))
        · first | omega | (simp <;> omega)
      have zs1 : w.heap.size + 2 < w1.heap.size + 1 := by have := hb.size; (try simp at this); omega
      have c0 : w1.cell? ⟨w.heap.size, 0, none⟩ = some (.int .i64 0) := (hb.cell (by first | omega | (simp <;> omega))).trans (by (simp (maxDischargeDepth := 8) [go_sem, World.cell?_alloc_past, ltk2, ltk3, ltk4, ltk5, ltk6, ltk7, ltk8, ltk9, *]))
      have c1 : w1.cell? ⟨w.heap.size, 1, none⟩ = some (.int .i64 0) := (hb.cell (by first | omega | (simp <;> omega))).trans (by (simp (maxDischargeDepth := 8) [go_sem, World.cell?_alloc_past, ltk2, ltk3, ltk4, ltk5, ltk6, ltk7, ltk8, ltk9, *]))
      have c2 : w1.cell? ⟨w.heap.size, 2, none⟩ = some (.int .i64 0) := (hb.cell (by first | omega | (simp <;> omega))).trans (by (simp (maxDischargeDepth := 8) [go_sem, World.cell?_alloc_past, ltk2, ltk3, ltk4, ltk5, ltk6, ltk7, ltk8, ltk9, *]))
      have c3 : w1.cell? ⟨w.heap.size, 3, none⟩ = some (.int .i64 0) := (hb.cell (by first | omega | (simp <;> omega))).trans (by (simp (maxDischargeDepth := 8) [go_sem, World.cell?_alloc_past, ltk2, ltk3, ltk4, ltk5, ltk6, ltk7, ltk8, ltk9, *]))
      have c4 : w1.cell? ⟨w.heap.size, 4, none⟩ = some (.int .i64 0) := (hb.cell (by first | omega | (simp <;> omega))).trans (by (simp (maxDischargeDepth := 8) [go_sem, World.cell?_alloc_past, ltk2, ltk3, ltk4, ltk5, ltk6, ltk7, ltk8, ltk9, *]))
      have c5 : w1.cell? ⟨w.heap.size, 5, none⟩ = some (.int .i64 0) := (hb.cell (by first | omega | (simp <;> omega))).trans (by (simp (maxDischargeDepth := 8) [go_sem, World.cell?_alloc_past, ltk2, ltk3, ltk4, ltk5, ltk6, ltk7, ltk8, ltk9, *]))
      have cf0 : w1.frozen? ⟨w.heap.size, 0, none⟩ = false := (hb.frozen (by first | omega | (simp <;> omega))).trans (by (simp (maxDischargeDepth := 8) [go_sem, World.cell?_alloc_past, ltk2, ltk3, ltk4, ltk5, ltk6, ltk7, ltk8, ltk9, *]))
      have cf1 : w1.frozen? ⟨w.heap.size, 1, none⟩ = false := (hb.frozen (by first | omega | (simp <;> omega))).trans (by (simp (maxDischargeDepth := 8) [go_sem, World.cell?_alloc_past, ltk2, ltk3, ltk4, ltk5, ltk6, ltk7, ltk8, ltk9, *]))
      have cf2 : w1.frozen? ⟨w.heap.size, 2, none⟩ = false := (hb.frozen (by first | omega | (simp <;> omega))).trans (by (simp (maxDischargeDepth := 8) [go_sem, World.cell?_alloc_past, ltk2, ltk3, ltk4, ltk5, ltk6, ltk7, ltk8, ltk9, *]))
      have cf3 : w1.frozen? ⟨w.heap.size, 3, none⟩ = false := (hb.frozen (by first | omega | (simp <;> omega))).trans (by (simp (maxDischargeDepth := 8) [go_sem, World.cell?_alloc_past, ltk2, ltk3, ltk4, ltk5, ltk6, ltk7, ltk8, ltk9, *]))
      have cf4 : w1.frozen? ⟨w.heap.size, 4, none⟩ = false := (hb.frozen (by first | omega | (simp <;> omega))).trans (by (simp (maxDischargeDepth := 8) [go_sem, World.cell?_alloc_past, ltk2, ltk3, ltk4, ltk5, ltk6, ltk7, ltk8, ltk9, *]))
      have cf5 : w1.frozen? ⟨w.heap.size, 5, none⟩ = false := (hb.frozen (by first | omega | (simp <;> omega))).trans (by (simp (maxDischargeDepth := 8) [go_sem, World.cell?_alloc_past, ltk2, ltk3, ltk4, ltk5, ltk6, ltk7, ltk8, ltk9, *]))
      have r0 : w1.cell? ⟨w.heap.size + 1, 0, none⟩ = some (.int .i64 0) := (hb.cell (by first | omega | (simp <;> omega))).trans (by (simp (maxDischargeDepth := 8) [go_sem, World.cell?_alloc_past, ltk2, ltk3, ltk4, ltk5, ltk6, ltk7, ltk8, ltk9, *]))
      have r1 : w1.cell? ⟨w.heap.size + 1, 1, none⟩ = some (.int .i64 0) := (hb.cell (by first | omega | (simp <;> omega))).trans (by (simp (maxDischargeDepth := 8) [go_sem, World.cell?_alloc_past, ltk2, ltk3, ltk4, ltk5, ltk6, ltk7, ltk8, ltk9, *]))
      have r2 : w1.cell? ⟨w.heap.size + 1, 2, none⟩ = some (.int .i64 0) := (hb.cell (by first | omega | (simp <;> omega))).trans (by (simp (maxDischargeDepth := 8) [go_sem, World.cell?_alloc_past, ltk2, ltk3, ltk4, ltk5, ltk6, ltk7, ltk8, ltk9, *]))
      have r3 : w1.cell? ⟨w.heap.size + 1, 3, none⟩ = some (.int .i64 0) := (hb.cell (by first | omega | (simp <;> omega))).trans (by (simp (maxDischargeDepth := 8) [go_sem, World.cell?_alloc_past, ltk2, ltk3, ltk4, ltk5, ltk6, ltk7, ltk8, ltk9, *]))
      have r4 : w1.cell? ⟨w.heap.size + 1, 4, none⟩ = some (.int .i64 0) := (hb.cell (by first | omega | (simp <;> omega))).trans (by (simp (maxDischargeDepth := 8) [go_sem, World.cell?_alloc_past, ltk2, ltk3, ltk4, ltk5, ltk6, ltk7, ltk8, ltk9, *]))
      have r5 : w1.cell? ⟨w.heap.size + 1, 5, none⟩ = some (.int .i64 0) := (hb.cell (by first | omega | (simp <;> omega))).trans (by (simp (maxDischargeDepth := 8) [go_sem, World.cell?_alloc_past, ltk2, ltk3, ltk4, ltk5, ltk6, ltk7, ltk8, ltk9, *]))
      have rf0 : w1.frozen? ⟨w.heap.size + 1, 0, none⟩ = false := (hb.frozen (by first | omega | (simp <;> omega))).trans (by (simp (maxDischargeDepth := 8) [go_sem, World.cell?_alloc_past, ltk2, ltk3, ltk4, ltk5, ltk6, ltk7, ltk8, ltk9, *]))
      have rf1 : w1.frozen? ⟨w.heap.size + 1, 1, none⟩ = false := (hb.frozen (by first | omega | (simp <;> omega))).trans (by (simp (maxDischargeDepth := 8) [go_sem, World.cell?_alloc_past, ltk2, ltk3, ltk4, ltk5, ltk6, ltk7, ltk8, ltk9, *]))
      have rf2 : w1.frozen? ⟨w.heap.size + 1, 2, none⟩ = false := (hb.frozen (by first | omega | (simp <;> omega))).trans (by (simp (maxDischargeDepth := 8) [go_sem, World.cell?_alloc_past, ltk2, ltk3, ltk4, ltk5, ltk6, ltk7, ltk8, ltk9, *]))
      have rf3 : w1.frozen? ⟨w.heap.size + 1, 3, none⟩ = false := (hb.frozen (by first | omega | (simp <;> omega))).trans (by (simp (maxDischargeDepth := 8) [go_sem, World.cell?_alloc_past, ltk2, ltk3, ltk4, ltk5, ltk6, ltk7, ltk8, ltk9, *]))
      have rf4 : w1.frozen? ⟨w.heap.size + 1, 4, none⟩ = false := (hb.frozen (by first | omega | (simp <;> omega))).trans (by (simp (maxDischargeDepth := 8) [go_sem, World.cell?_alloc_past, ltk2, ltk3, ltk4, ltk5, ltk6, ltk7, ltk8, ltk9, *]))
      have rf5 : w1.frozen? ⟨w.heap.size + 1, 5, none⟩ = false := (hb.frozen (by first | omega | (simp <;> omega))).trans (by (simp (maxDischargeDepth := 8) [go_sem, World.cell?_alloc_past, ltk2, ltk3, ltk4, ltk5, ltk6, ltk7, ltk8, ltk9, *]))
      clear hb
      have zy0_1 : w.heap.size < w1.heap.size := by omega
      have zy1_1 : w.heap.size + 1 < w1.heap.size := by omega
      clear A0
      go_wp2_with fail
      rw [rounds_succ]
      go_wp2_with fail
      with_reducible refine (A1 _ ?hw1).mono ?_
      case hw1 =>
        refine Below.trans hB (Below.mono ?_ hle)
        (repeat (first | with_reducible exact HB1 | (with_reducible refine bal ?_ _) | (with_reducible refine below_drewN ?_ _) | (with_reducible refine Below.drew ?_) | (with_reducible refine bset ?_ (by first | omega | (simp <;> omega)) _)))
      rintro e w2 ⟨rfl, hb⟩
      have HB2 : Below w.heap.size w w2 := by
        refine Below.trans ?_ (hb.mono ?_)
        · (repeat (first | with_reducible exact HB1 | (with_reducible refine bal ?_ _) | (with_reducible refine below_drewN ?_ _) | (with_reducible refine Below.drew ?_) | (with_reducible refine bset ?_ (by first | omega | (simp <;> omega)) _)))
        · first | omega | (simp <;> omega)
      have zs2 : w1.heap.size + 0 < w2.heap.size + 1 := by have := hb.size; (try simp at this); omega
      replace c0 : w2.cell? ⟨w.heap.size, 0, none⟩ = some (.int .i64 0) := (hb.cell (by first | omega | (simp <;> omega))).trans (by (simp (maxDischargeDepth := 8) [go_sem, World.cell?_alloc_past, ltk2, ltk3, ltk4, ltk5, ltk6, ltk7, ltk8, ltk9, *]))
      replace c1 : w2.cell? ⟨w.heap.size, 1, none⟩ = some (.int .i64 0) := (hb.cell (by first | omega | (simp <;> omega))).trans (by (simp (maxDischargeDepth := 8) [go_sem, World.cell?_alloc_past, ltk2, ltk3, ltk4, ltk5, ltk6, ltk7, ltk8, ltk9, *]))
      replace c2 : w2.cell? ⟨w.heap.size, 2, none⟩ = some (.int .i64 0) := (hb.cell (by first | omega | (simp <;> omega))).trans (by (simp (maxDischargeDepth := 8) [go_sem, World.cell?_alloc_past, ltk2, ltk3, ltk4, ltk5, ltk6, ltk7, ltk8, ltk9, *]))
      replace c3 : w2.cell? ⟨w.heap.size, 3, none⟩ = some (.int .i64 0) := (hb.cell (by first | omega | (simp <;> omega))).trans (by (simp (maxDischargeDepth := 8) [go_sem, World.cell?_alloc_past, ltk2, ltk3, ltk4, ltk5, ltk6, ltk7, ltk8, ltk9, *]))
      replace c4 : w2.cell? ⟨w.heap.size, 4, none⟩ = some (.int .i64 0) := (hb.cell (by first | omega | (simp <;> omega))).trans (by (simp (maxDischargeDepth := 8) [go_sem, World.cell?_alloc_past, ltk2, ltk3, ltk4, ltk5, ltk6, ltk7, ltk8, ltk9, *]))
      replace c5 : w2.cell? ⟨w.heap.size, 5, none⟩ = some (.int .i64 0) := (hb.cell (by first | omega | (simp <;> omega))).trans (by (simp (maxDischargeDepth := 8) [go_sem, World.cell?_alloc_past, ltk2, ltk3, ltk4, ltk5, ltk6, ltk7, ltk8, ltk9, *]))
      replace cf0 : w2.frozen? ⟨w.heap.size, 0, none⟩ = false := (hb.frozen (by first | omega | (simp <;> omega))).trans (by (simp (maxDischargeDepth := 8) [go_sem, World.cell?_alloc_past, ltk2, ltk3, ltk4, ltk5, ltk6, ltk7, ltk8, ltk9, *]))
      replace cf1 : w2.frozen? ⟨w.heap.size, 1, none⟩ = false := (hb.frozen (by first | omega | (simp <;> omega))).trans (by (simp (maxDischargeDepth := 8) [go_sem, World.cell?_alloc_past, ltk2, ltk3, ltk4, ltk5, ltk6, ltk7, ltk8, ltk9, *]))
      replace cf2 : w2.frozen? ⟨w.heap.size, 2, none⟩ = false := (hb.frozen (by first | omega | (simp <;> omega))).trans (by (simp (maxDischargeDepth := 8) [go_sem, World.cell?_alloc_past, ltk2, ltk3, ltk4, ltk5, ltk6, ltk7, ltk8, ltk9, *]))
      replace cf3 : w2.frozen? ⟨w.heap.size, 3, none⟩ = false := (hb.frozen (by first | omega | (simp <;> omega))).trans (by (simp (maxDischargeDepth := 8) [go_sem, World.cell?_alloc_past, ltk2, ltk3, ltk4, ltk5, ltk6, ltk7, ltk8, ltk9, *]))
      replace cf4 : w2.frozen? ⟨w.heap.size, 4, none⟩ = false := (hb.frozen (by first | omega | (simp <;> omega))).trans (by (simp (maxDischargeDepth := 8) [go_sem, World.cell?_alloc_past, ltk2, ltk3, ltk4, ltk5, ltk6, ltk7, ltk8, ltk9, *]))
      replace cf5 : w2.frozen? ⟨w.heap.size, 5, none⟩ = false := (hb.frozen (by first | omega | (simp <;> omega))).trans (by (simp (maxDischargeDepth := 8) [go_sem, World.cell?_alloc_past, ltk2, ltk3, ltk4, ltk5, ltk6, ltk7, ltk8, ltk9, *]))
      replace r0 : w2.cell? ⟨w.heap.size + 1, 0, none⟩ = some (.int .i64 X0) := (hb.cell (by first | omega | (simp <;> omega))).trans (by (simp (maxDischargeDepth := 8) [go_sem, World.cell?_alloc_past, ltk2, ltk3, ltk4, ltk5, ltk6, ltk7, ltk8, ltk9, *]))
      replace r1 : w2.cell? ⟨w.heap.size + 1, 1, none⟩ = some (.int .i64 Y0) := (hb.cell (by first | omega | (simp <;> omega))).trans (by (simp (maxDischargeDepth := 8) [go_sem, World.cell?_alloc_past, ltk2, ltk3, ltk4, ltk5, ltk6, ltk7, ltk8, ltk9, *]))
      replace r2 : w2.cell? ⟨w.heap.size + 1, 2, none⟩ = some (.int .i64 0) := (hb.cell (by first | omega | (simp <;> omega))).trans (by (simp (maxDischargeDepth := 8) [go_sem, World.cell?_alloc_past, ltk2, ltk3, ltk4, ltk5, ltk6, ltk7, ltk8, ltk9, *]))
      replace r3 : w2.cell? ⟨w.heap.size + 1, 3, none⟩ = some (.int .i64 0) := (hb.cell (by first | omega | (simp <;> omega))).trans (by (simp (maxDischargeDepth := 8) [go_sem, World.cell?_alloc_past, ltk2, ltk3, ltk4, ltk5, ltk6, ltk7, ltk8, ltk9, *]))
      replace r4 : w2.cell? ⟨w.heap.size + 1, 4, none⟩ = some (.int .i64 0) := (hb.cell (by first | omega | (simp <;> omega))).trans (by (simp (maxDischargeDepth := 8) [go_sem, World.cell?_alloc_past, ltk2, ltk3, ltk4, ltk5, ltk6, ltk7, ltk8, ltk9, *]))
      replace r5 : w2.cell? ⟨w.heap.size + 1, 5, none⟩ = some (.int .i64 0) := (hb.cell (by first | omega | (simp <;> omega))).trans (by (simp (maxDischargeDepth := 8) [go_sem, World.cell?_alloc_past, ltk2, ltk3, ltk4, ltk5, ltk6, ltk7, ltk8, ltk9, *]))
      replace rf0 : w2.frozen? ⟨w.heap.size + 1, 0, none⟩ = false := (hb.frozen (by first | omega | (simp <;> omega))).trans (by (simp (maxDischargeDepth := 8) [go_sem, World.cell?_alloc_past, ltk2, ltk3, ltk4, ltk5, ltk6, ltk7, ltk8, ltk9, *]))
      replace rf1 : w2.frozen? ⟨w.heap.size + 1, 1, none⟩ = false := (hb.frozen (by first | omega | (simp <;> omega))).trans (by (simp (maxDischargeDepth := 8) [go_sem, World.cell?_alloc_past, ltk2, ltk3, ltk4, ltk5, ltk6, ltk7, ltk8, ltk9, *]))
      replace rf2 : w2.frozen? ⟨w.heap.size + 1, 2, none⟩ = false := (hb.frozen (by first | omega | (simp <;> omega))).trans (by (simp (maxDischargeDepth := 8) [go_sem, World.cell?_alloc_past, ltk2, ltk3, ltk4, ltk5, ltk6, ltk7, ltk8, ltk9, *]))
      replace rf3 : w2.frozen? ⟨w.heap.size + 1, 3, none⟩ = false := (hb.frozen (by first | omega | (simp <;> omega))).trans (by (simp (maxDischargeDepth := 8) [go_sem, World.cell?_alloc_past, ltk2, ltk3, ltk4, ltk5, ltk6, ltk7, ltk8, ltk9, *]))
      replace rf4 : w2.frozen? ⟨w.heap.size + 1, 4, none⟩ = false := (hb.frozen (by first | omega | (simp <;> omega))).trans (by (simp (maxDischargeDepth := 8) [go_sem, World.cell?_alloc_past, ltk2, ltk3, ltk4, ltk5, ltk6, ltk7, ltk8, ltk9, *]))
      replace rf5 : w2.frozen? ⟨w.heap.size + 1, 5, none⟩ = false := (hb.frozen (by first | omega | (simp <;> omega))).trans (by (simp (maxDischargeDepth := 8) [go_sem, World.cell?_alloc_past, ltk2, ltk3, ltk4, ltk5, ltk6, ltk7, ltk8, ltk9, *]))
      clear hb HB1
      have zy0_2 : w.heap.size < w2.heap.size := by omega
      have zy1_2 : w.heap.size + 1 < w2.heap.size := by omega
      clear A1
      go_wp2
      refine bodyPost_ret (by simp [results, Try.results120, go_sem, ext_cell, World.cell?_alloc_past, ltk2, ltk3, ltk4, ltk5, ltk6, ltk7, ltk8, ltk9, *]; try rfl) rfl ?_
      exact ⟨rfl, by (repeat (first | with_reducible exact HB2 | (with_reducible refine bext ?_ _ _) | (with_reducible refine below_drewN ?_ _) | (with_reducible refine Below.drew ?_) | (with_reducible refine bal ?_ _) | (with_reducible refine bset ?_ (by first | omega | (simp <;> omega)) _)))⟩
  · rw [show fsI E0 E1 E2 = E0 by unfold fsI; rw [if_neg h0], vzn h0, vzn h0, vzn h0, vzn h0, vzn h0, vzn h0]
    have e0 : (E0 == 0) = false := by simp [h0]
    clear h0 A1 A2
    have dAl := dAl; have dSt := dSt; have xC := ext_cell; have xF := ext_frozen; have xS := ext_set; have xN := ext_drewN; have xD := ext_drew; have xL := ext_lt; have xE := ext_ne; have xG := ext_nr; have xX := ext_ext; have xL1 := ext_lt1; have xL2 := ext_lt2; have xL3 := ext_lt3; have xM0 := ext_le0; have xM1 := ext_le1; have xM2 := ext_le2
    go_enter Try.func120, Try.ntmps120
    go_wp2_with fail
    refine wp_loop_rounds 4 ?_
    rw [rounds_succ]
    go_wp2_with fail
    with_reducible refine (A0 _ ?hw0).mono ?_
    case hw0 =>
      refine Below.trans hB (Below.mono ?_ hle)
      (repeat (first | with_reducible exact b0 _ | (with_reducible refine bal ?_ _) | (with_reducible refine below_drewN ?_ _) | (with_reducible refine Below.drew ?_) | (with_reducible refine bset ?_ (by first | omega | (simp <;> omega)) _)))
    rintro e w1 ⟨rfl, hb⟩
    have HB1 : Below w.heap.size w w1 := by
      refine Below.trans ?_ (hb.mono ?_)
      · (repeat (first | with_reducible exact b0 _ | (with_reducible refine bal ?_ _) | (with_reducible refine below_drewN ?_ _) | (with_reducible refine Below.drew ?_) | (with_reducible refine bset ?_ (by first | omega | (simp <;> omega)) _)))
      · first | omega | (simp <;> omega)
    have zs1 : w.heap.size + 2 < w1.heap.size + 1 := by have := hb.size; (try simp at this); omega
    have c0 : w1.cell? ⟨w.heap.size, 0, none⟩ = some (.int .i64 0) := (hb.cell (by first | omega | (simp <;> omega))).trans (by (simp (maxDischargeDepth := 8) [go_sem, World.cell?_alloc_past, ltk2, ltk3, ltk4, ltk5, ltk6, ltk7, ltk8, ltk9, *]))
    have c1 : w1.cell? ⟨w.heap.size, 1, none⟩ = some (.int .i64 0) := (hb.cell (by first | omega | (simp <;> omega))).trans (by (simp (maxDischargeDepth := 8) [go_sem, World.cell?_alloc_past, ltk2, ltk3, ltk4, ltk5, ltk6, ltk7, ltk8, ltk9, *]))
    have c2 : w1.cell? ⟨w.heap.size, 2, none⟩ = some (.int .i64 0) := (hb.cell (by first | omega | (simp <;> omega))).trans (by (simp (maxDischargeDepth := 8) [go_sem, World.cell?_alloc_past, ltk2, ltk3, ltk4, ltk5, ltk6, ltk7, ltk8, ltk9, *]))
    have c3 : w1.cell? ⟨w.heap.size, 3, none⟩ = some (.int .i64 0) := (hb.cell (by first | omega | (simp <;> omega))).trans (by (simp (maxDischargeDepth := 8) [go_sem, World.cell?_alloc_past, ltk2, ltk3, ltk4, ltk5, ltk6, ltk7, ltk8, ltk9, *]))
    have c4 : w1.cell? ⟨w.heap.size, 4, none⟩ = some (.int .i64 0) := (hb.cell (by first | omega | (simp <;> omega))).trans (by (simp (maxDischargeDepth := 8) [go_sem, World.cell?_alloc_past, ltk2, ltk3, ltk4, ltk5, ltk6, ltk7, ltk8, ltk9, *]))
    have c5 : w1.cell? ⟨w.heap.size, 5, none⟩ = some (.int .i64 0) := (hb.cell (by first | omega | (simp <;> omega))).trans (by (simp (maxDischargeDepth := 8) [go_sem, World.cell?_alloc_past, ltk2, ltk3, ltk4, ltk5, ltk6, ltk7, ltk8, ltk9, *]))
    have cf0 : w1.frozen? ⟨w.heap.size, 0, none⟩ = false := (hb.frozen (by first | omega | (simp <;> omega))).trans (by (simp (maxDischargeDepth := 8) [go_sem, World.cell?_alloc_past, ltk2, ltk3, ltk4, ltk5, ltk6, ltk7, ltk8, ltk9, *]))
    have cf1 : w1.frozen? ⟨w.heap.size, 1, none⟩ = false := (hb.frozen (by first | omega | (simp <;> omega))).trans (by (simp (maxDischargeDepth := 8) [go_sem, World.cell?_alloc_past, ltk2, ltk3, ltk4, ltk5, ltk6, ltk7, ltk8, ltk9, *]))
    have cf2 : w1.frozen? ⟨w.heap.size, 2, none⟩ = false := (hb.frozen (by first | omega | (simp <;> omega))).trans (by (simp (maxDischargeDepth := 8) [go_sem, World.cell?_alloc_past, ltk2, ltk3, ltk4, ltk5, ltk6, ltk7, ltk8, ltk9, *]))
    have cf3 : w1.frozen? ⟨w.heap.size, 3, none⟩ = false := (hb.frozen (by first | omega | (simp <;> omega))).trans (by (simp (maxDischargeDepth := 8) [go_sem, World.cell?_alloc_past, ltk2, ltk3, ltk4, ltk5, ltk6, ltk7, ltk8, ltk9, *]))
    have cf4 : w1.frozen? ⟨w.heap.size, 4, none⟩ = false := (hb.frozen (by first | omega | (simp <;> omega))).trans (by (simp (maxDischargeDepth := 8) [go_sem, World.cell?_alloc_past, ltk2, ltk3, ltk4, ltk5, ltk6, ltk7, ltk8, ltk9, *]))
    have cf5 : w1.frozen? ⟨w.heap.size, 5, none⟩ = false := (hb.frozen (by first | omega | (simp <;> omega))).trans (by (simp (maxDischargeDepth := 8) [go_sem, World.cell?_alloc_past, ltk2, ltk3, ltk4, ltk5, ltk6, ltk7, ltk8, ltk9, *]))
    have r0 : w1.cell? ⟨w.heap.size + 1, 0, none⟩ = some (.int .i64 0) := (hb.cell (by first | omega | (simp <;> omega))).trans (by (simp (maxDischargeDepth := 8) [go_sem, World.cell?_alloc_past, ltk2, ltk3, ltk4, ltk5, ltk6, ltk7, ltk8, ltk9, *]))
    have r1 : w1.cell? ⟨w.heap.size + 1, 1, none⟩ = some (.int .i64 0) := (hb.cell (by first | omega | (simp <;> omega))).trans (by (simp (maxDischargeDepth := 8) [go_sem, World.cell?_alloc_past, ltk2, ltk3, ltk4, ltk5, ltk6, ltk7, ltk8, ltk9, *]))
    have r2 : w1.cell? ⟨w.heap.size + 1, 2, none⟩ = some (.int .i64 0) := (hb.cell (by first | omega | (simp <;> omega))).trans (by (simp (maxDischargeDepth := 8) [go_sem, World.cell?_alloc_past, ltk2, ltk3, ltk4, ltk5, ltk6, ltk7, ltk8, ltk9, *]))
    have r3 : w1.cell? ⟨w.heap.size + 1, 3, none⟩ = some (.int .i64 0) := (hb.cell (by first | omega | (simp <;> omega))).trans (by (simp (maxDischargeDepth := 8) [go_sem, World.cell?_alloc_past, ltk2, ltk3, ltk4, ltk5, ltk6, ltk7, ltk8, ltk9, *]))
    have r4 : w1.cell? ⟨w.heap.size + 1, 4, none⟩ = some (.int .i64 0) := (hb.cell (by first | omega | (simp <;> omega))).trans (by (simp (maxDischargeDepth := 8) [go_sem, World.cell?_alloc_past, ltk2, ltk3, ltk4, ltk5, ltk6, ltk7, ltk8, ltk9, *]))
    have r5 : w1.cell? ⟨w.heap.size + 1, 5, none⟩ = some (.int .i64 0) := (hb.cell (by first | omega | (simp <;> omega))).trans (by (simp (maxDischargeDepth := 8) [go_sem, World.cell?_alloc_past, ltk2, ltk3, ltk4, ltk5, ltk6, ltk7, ltk8, ltk9, *]))
    have rf0 : w1.frozen? ⟨w.heap.size + 1, 0, none⟩ = false := (hb.frozen (by first | omega | (simp <;> omega))).trans (by (simp (maxDischargeDepth := 8) [go_sem, World.cell?_alloc_past, ltk2, ltk3, ltk4, ltk5, ltk6, ltk7, ltk8, ltk9, *]))
    have rf1 : w1.frozen? ⟨w.heap.size + 1, 1, none⟩ = false := (hb.frozen (by first | omega | (simp <;> omega))).trans (by (simp (maxDischargeDepth := 8) [go_sem, World.cell?_alloc_past, ltk2, ltk3, ltk4, ltk5, ltk6, ltk7, ltk8, ltk9, *]))
    have rf2 : w1.frozen? ⟨w.heap.size + 1, 2, none⟩ = false := (hb.frozen (by first | omega | (simp <;> omega))).trans (by (simp (maxDischargeDepth := 8) [go_sem, World.cell?_alloc_past, ltk2, ltk3, ltk4, ltk5, ltk6, ltk7, ltk8, ltk9, *]))
    have rf3 : w1.frozen? ⟨w.heap.size + 1, 3, none⟩ = false := (hb.frozen (by first | omega | (simp <;> omega))).trans (by (simp (maxDischargeDepth := 8) [go_sem, World.cell?_alloc_past, ltk2, ltk3, ltk4, ltk5, ltk6, ltk7, ltk8, ltk9, *]))
    have rf4 : w1.frozen? ⟨w.heap.size + 1, 4, none⟩ = false := (hb.frozen (by first | omega | (simp <;> omega))).trans (by (simp (maxDischargeDepth := 8) [go_sem, World.cell?_alloc_past, ltk2, ltk3, ltk4, ltk5, ltk6, ltk7, ltk8, ltk9, *]))
    have rf5 : w1.frozen? ⟨w.heap.size + 1, 5, none⟩ = false := (hb.frozen (by first | omega | (simp <;> omega))).trans (by (simp (maxDischargeDepth := 8) [go_sem, World.cell?_alloc_past, ltk2, ltk3, ltk4, ltk5, ltk6, ltk7, ltk8, ltk9, *]))
    clear hb
    have zy0_1 : w.heap.size < w1.heap.size := by omega
    have zy1_1 : w.heap.size + 1 < w1.heap.size := by omega
    clear A0
    go_wp2
    refine bodyPost_ret (by simp [results, Try.results120, go_sem, ext_cell, World.cell?_alloc_past, ltk2, ltk3, ltk4, ltk5, ltk6, ltk7, ltk8, ltk9, *]; try rfl) rfl ?_
    exact ⟨rfl, by (repeat (first | with_reducible exact HB1 | (with_reducible refine bext ?_ _ _) | (with_reducible refine below_drewN ?_ _) | (with_reducible refine Below.drew ?_) | (with_reducible refine bal ?_ _) | (with_reducible refine bset ?_ (by first | omega | (simp <;> omega)) _)))⟩

end Go.Proofs.Ytbckjccbihnlnaa
