/-
  Package track: sums of products.  Package track: the check of directions, and their dot product.
-/
import Derived.Test.YtmjbeplcabomdaaQb
namespace Go.Proofs.Ytmjbeplcabomdaa
open Go.RowKit
set_option linter.unusedVariables false
set_option linter.unusedSimpArgs false
/-- The products whose factors stand in a row. -/
def quads (P : Nat → Int) : Nat → Nat → List (Int × Int × Int × Int)
  | _, 0 => []
  | i, n + 1 => (P (i * 4), P (i * 4 + 1), P (i * 4 + 2), P (i * 4 + 3)) :: quads P (i + 1) n
theorem quads_step (P : Nat → Int) {i m : Nat} (h : i < m) : quads P i (m - i) = (P (i * 4), P (i * 4 + 1), P (i * 4 + 2), P (i * 4 + 3)) :: quads P (i + 1) (m - (i + 1)) := by
  obtain ⟨k, hk⟩ : ∃ k, m - i = k + 1 := ⟨m - i - 1, by omega⟩
  have : m - (i + 1) = k := by omega
  rw [hk, this]; rfl
theorem quads_end (P : Nat → Int) {i m : Nat} (h : ¬ i < m) : quads P i (m - i) = [] := by
  have : m - i = 0 := by omega
  rw [this]; rfl

set_option maxRecDepth 100000 in
set_option maxHeartbeats 3200000 in
theorem track_sum (P : Nat → Int) (g cap m : Nat) (hm : m ≤ 1000) (w : World) (hg : g < w.heap.size) (hc : ∀ o, o < 4 * m → w.cell? ⟨g, o, none⟩ = some (.int .i64 (P o))) :
    Calls Try.prog 37 #[.slice (some ⟨g, 0, none⟩) m cap] w fun x w' => x = .returned (.tuple #[.agg #[.int .i64 ((suR (quads P 0 m) 0 0).1), .int .i64 ((suR (quads P 0 m) 0 0).2.1)], .int .i64 (suR (quads P 0 m) 0 0).2.2]) ∧ Below w.heap.size w w' := by
  have cC : Cs w g (4 * m) P := hc
  obtain ⟨R, hR⟩ : ∃ R, R = suR (quads P 0 m) 0 0 := ⟨_, rfl⟩
  rw [← hR]
  have HR := Lib.hid hR
  have CC := Lib.hid cC
  have HG := Lib.hid hg
  clear hc hR cC
  have dAl := dAl; have dSt := dSt; have xC := ext_cell; have xF := ext_frozen; have xS := ext_set; have xN := ext_drewN; have xD := ext_drew; have xL := ext_lt; have xE := ext_ne; have xG := ext_nr; have xX := ext_ext; have xL1 := ext_lt1; have xL2 := ext_lt2; have xL3 := ext_lt3; have xM0 := ext_le0; have xM1 := ext_le1; have xM2 := ext_le2
  go_enter Try.func37, Try.ntmps37
  go_wp2_with fail
  go_loopg [11] m (fun kk s11 wr => ∃ (i : Nat) (l h : Int), kk = m - i ∧ s11 = .int .i64 i ∧ i ≤ m ∧ Hid (suR (quads P i (m - i)) l h = R) ∧ 
    wr.cell? ⟨w.heap.size, 0, none⟩ = some (.int .i64 0) ∧ wr.cell? ⟨w.heap.size, 1, none⟩ = some (.int .i64 0) ∧ wr.cell? ⟨w.heap.size + 1, 0, none⟩ = some (.int .i64 l) ∧ wr.cell? ⟨w.heap.size + 1, 1, none⟩ = some (.int .i64 h) ∧
    wr.frozen? ⟨w.heap.size, 0, none⟩ = false ∧ wr.frozen? ⟨w.heap.size, 1, none⟩ = false ∧ wr.frozen? ⟨w.heap.size + 1, 0, none⟩ = false ∧ wr.frozen? ⟨w.heap.size + 1, 1, none⟩ = false ∧ w.heap.size + 1 < wr.heap.size ∧ Below w.heap.size w wr)
  case atStart =>
    refine ⟨0, 0, 0, rfl, rfl, by omega, HR.out.symm, by (simp (maxDischargeDepth := 8) [go_sem, World.cell?_alloc_past, ltk2, ltk3, ltk4, ltk5, ltk6, ltk7, ltk8, ltk9, *]), by (simp (maxDischargeDepth := 8) [go_sem, World.cell?_alloc_past, ltk2, ltk3, ltk4, ltk5, ltk6, ltk7, ltk8, ltk9, *]), by (simp (maxDischargeDepth := 8) [go_sem, World.cell?_alloc_past, ltk2, ltk3, ltk4, ltk5, ltk6, ltk7, ltk8, ltk9, *]), by (simp (maxDischargeDepth := 8) [go_sem, World.cell?_alloc_past, ltk2, ltk3, ltk4, ltk5, ltk6, ltk7, ltk8, ltk9, *]), by (simp (maxDischargeDepth := 8) [go_sem, World.cell?_alloc_past, ltk2, ltk3, ltk4, ltk5, ltk6, ltk7, ltk8, ltk9, *]), by (simp (maxDischargeDepth := 8) [go_sem, World.cell?_alloc_past, ltk2, ltk3, ltk4, ltk5, ltk6, ltk7, ltk8, ltk9, *]), by (simp (maxDischargeDepth := 8) [go_sem, World.cell?_alloc_past, ltk2, ltk3, ltk4, ltk5, ltk6, ltk7, ltk8, ltk9, *]), by (simp (maxDischargeDepth := 8) [go_sem, World.cell?_alloc_past, ltk2, ltk3, ltk4, ltk5, ltk6, ltk7, ltk8, ltk9, *]), by (simp; try omega), by (repeat (first | with_reducible exact b0 _ | (with_reducible refine bext ?_ _ _) | (with_reducible refine below_drewN ?_ _) | (with_reducible refine Below.drew ?_) | (with_reducible refine bal ?_ _)))⟩
  case round =>
    obtain ⟨i, l, h, rfl, rfl, him, HQ, r0, r1, t0, t1, f0, f1, f2, f3, zs, hbr⟩ := hrel
    have cR := Lib.hid (cs_below CC.out hbr HG.out)
    have zr : g < wr.heap.size := by omega
    clear hg
    have zs0 : w.heap.size < wr.heap.size := by omega
    by_cases hi : i < m
    · have e0 := cR.out (i * 4) (by omega)
      have e1 := cR.out (i * 4 + 1) (by omega)
      have e2 := cR.out (i * 4 + 2) (by omega)
      have e3 := cR.out (i * 4 + 3) (by omega)
      have zi : ((i : Int) < (m : Int)) = True := by simp; omega
      have hq := HQ.out
      rw [quads_step P hi] at hq
      have HI := Lib.hid hi
      have i40 : i < 1000 := by omega
      clear HQ hi him cR
      generalize P (i * 4) = a at *
      generalize P (i * 4 + 1) = b at *
      generalize P (i * 4 + 2) = c at *
      generalize P (i * 4 + 3) = d at *
      have A1 := fun w => sine_Mul a b c d w
      have A2 := fun w => sine_Add l h (smL a b c d) (smH a b c d) w
      rw [suR] at hq
      generalize smL a b c d = x1 at *
      generalize smH a b c d = x2 at *
      generalize smE a b c d = x3 at *
      generalize saL l h x1 x2 = y1 at *
      generalize saH l h x1 x2 = y2 at *
      generalize saE l h x1 x2 = y3 at *
      by_cases k1 : x3 = 0
      · by_cases k2 : y3 = 0
        · subst k1
          subst k2
          rw [if_pos rfl, if_pos rfl] at hq
          have HQ := Lib.hid hq
          clear hq
          go_wp2_with fail
          with_reducible refine (A1 _).mono ?_
          rintro e v1 ⟨rfl, hb1⟩
          have zz1 := hb1.size
          try simp [ext_size] at zz1
          have cc1_0 : v1.cell? ⟨w.heap.size, 0, none⟩ = some (.int .i64 0) := (hb1.cell (p := ⟨w.heap.size, 0, none⟩) (by first | omega | (simp [ext_size]; try omega))).trans (by (simp (maxDischargeDepth := 8) [go_sem, World.cell?_alloc_past, ltk2, ltk3, ltk4, ltk5, ltk6, ltk7, ltk8, ltk9, *]))
          have cc1_1 : v1.cell? ⟨w.heap.size, 1, none⟩ = some (.int .i64 0) := (hb1.cell (p := ⟨w.heap.size, 1, none⟩) (by first | omega | (simp [ext_size]; try omega))).trans (by (simp (maxDischargeDepth := 8) [go_sem, World.cell?_alloc_past, ltk2, ltk3, ltk4, ltk5, ltk6, ltk7, ltk8, ltk9, *]))
          have cc1_2 : v1.cell? ⟨w.heap.size + 1, 0, none⟩ = some (.int .i64 l) := (hb1.cell (p := ⟨w.heap.size + 1, 0, none⟩) (by first | omega | (simp [ext_size]; try omega))).trans (by (simp (maxDischargeDepth := 8) [go_sem, World.cell?_alloc_past, ltk2, ltk3, ltk4, ltk5, ltk6, ltk7, ltk8, ltk9, *]))
          have cc1_3 : v1.cell? ⟨w.heap.size + 1, 1, none⟩ = some (.int .i64 h) := (hb1.cell (p := ⟨w.heap.size + 1, 1, none⟩) (by first | omega | (simp [ext_size]; try omega))).trans (by (simp (maxDischargeDepth := 8) [go_sem, World.cell?_alloc_past, ltk2, ltk3, ltk4, ltk5, ltk6, ltk7, ltk8, ltk9, *]))
          have cf1_0 : v1.frozen? ⟨w.heap.size, 0, none⟩ = false := (hb1.frozen (p := ⟨w.heap.size, 0, none⟩) (by first | omega | (simp [ext_size]; try omega))).trans (by (simp (maxDischargeDepth := 8) [go_sem, World.cell?_alloc_past, ltk2, ltk3, ltk4, ltk5, ltk6, ltk7, ltk8, ltk9, *]))
          have cf1_1 : v1.frozen? ⟨w.heap.size, 1, none⟩ = false := (hb1.frozen (p := ⟨w.heap.size, 1, none⟩) (by first | omega | (simp [ext_size]; try omega))).trans (by (simp (maxDischargeDepth := 8) [go_sem, World.cell?_alloc_past, ltk2, ltk3, ltk4, ltk5, ltk6, ltk7, ltk8, ltk9, *]))
          have cf1_2 : v1.frozen? ⟨w.heap.size + 1, 0, none⟩ = false := (hb1.frozen (p := ⟨w.heap.size + 1, 0, none⟩) (by first | omega | (simp [ext_size]; try omega))).trans (by (simp (maxDischargeDepth := 8) [go_sem, World.cell?_alloc_past, ltk2, ltk3, ltk4, ltk5, ltk6, ltk7, ltk8, ltk9, *]))
          have cf1_3 : v1.frozen? ⟨w.heap.size + 1, 1, none⟩ = false := (hb1.frozen (p := ⟨w.heap.size + 1, 1, none⟩) (by first | omega | (simp [ext_size]; try omega))).trans (by (simp (maxDischargeDepth := 8) [go_sem, World.cell?_alloc_past, ltk2, ltk3, ltk4, ltk5, ltk6, ltk7, ltk8, ltk9, *]))
          have zl1_0 : w.heap.size < v1.heap.size := by omega
          have zl1_1 : w.heap.size + 1 < v1.heap.size := by omega
          have hB1 : Below w.heap.size w v1 := Below.trans (by (repeat (first | with_reducible exact hbr | (with_reducible refine bext ?_ _ _) | (with_reducible refine below_drewN ?_ _) | (with_reducible refine Below.drew ?_) | (with_reducible refine bal ?_ _) | (with_reducible refine bset ?_ (by first | omega | (simp <;> omega)) _)))) (hb1.mono (by first | omega | (simp [ext_size]; try omega)))
          have zw1 := hB1.size
          clear hb1
          go_wp2_with fail
          with_reducible refine (A2 _).mono ?_
          rintro e v2 ⟨rfl, hb2⟩
          have zz2 := hb2.size
          try simp [ext_size] at zz2
          have cc2_0 : v2.cell? ⟨w.heap.size, 0, none⟩ = some (.int .i64 0) := (hb2.cell (p := ⟨w.heap.size, 0, none⟩) (by first | omega | (simp [ext_size]; try omega))).trans (by (simp (maxDischargeDepth := 8) [go_sem, World.cell?_alloc_past, ltk2, ltk3, ltk4, ltk5, ltk6, ltk7, ltk8, ltk9, *]))
          have cc2_1 : v2.cell? ⟨w.heap.size, 1, none⟩ = some (.int .i64 0) := (hb2.cell (p := ⟨w.heap.size, 1, none⟩) (by first | omega | (simp [ext_size]; try omega))).trans (by (simp (maxDischargeDepth := 8) [go_sem, World.cell?_alloc_past, ltk2, ltk3, ltk4, ltk5, ltk6, ltk7, ltk8, ltk9, *]))
          have cc2_2 : v2.cell? ⟨w.heap.size + 1, 0, none⟩ = some (.int .i64 l) := (hb2.cell (p := ⟨w.heap.size + 1, 0, none⟩) (by first | omega | (simp [ext_size]; try omega))).trans (by (simp (maxDischargeDepth := 8) [go_sem, World.cell?_alloc_past, ltk2, ltk3, ltk4, ltk5, ltk6, ltk7, ltk8, ltk9, *]))
          have cc2_3 : v2.cell? ⟨w.heap.size + 1, 1, none⟩ = some (.int .i64 h) := (hb2.cell (p := ⟨w.heap.size + 1, 1, none⟩) (by first | omega | (simp [ext_size]; try omega))).trans (by (simp (maxDischargeDepth := 8) [go_sem, World.cell?_alloc_past, ltk2, ltk3, ltk4, ltk5, ltk6, ltk7, ltk8, ltk9, *]))
          have cf2_0 : v2.frozen? ⟨w.heap.size, 0, none⟩ = false := (hb2.frozen (p := ⟨w.heap.size, 0, none⟩) (by first | omega | (simp [ext_size]; try omega))).trans (by (simp (maxDischargeDepth := 8) [go_sem, World.cell?_alloc_past, ltk2, ltk3, ltk4, ltk5, ltk6, ltk7, ltk8, ltk9, *]))
          have cf2_1 : v2.frozen? ⟨w.heap.size, 1, none⟩ = false := (hb2.frozen (p := ⟨w.heap.size, 1, none⟩) (by first | omega | (simp [ext_size]; try omega))).trans (by (simp (maxDischargeDepth := 8) [go_sem, World.cell?_alloc_past, ltk2, ltk3, ltk4, ltk5, ltk6, ltk7, ltk8, ltk9, *]))
          have cf2_2 : v2.frozen? ⟨w.heap.size + 1, 0, none⟩ = false := (hb2.frozen (p := ⟨w.heap.size + 1, 0, none⟩) (by first | omega | (simp [ext_size]; try omega))).trans (by (simp (maxDischargeDepth := 8) [go_sem, World.cell?_alloc_past, ltk2, ltk3, ltk4, ltk5, ltk6, ltk7, ltk8, ltk9, *]))
          have cf2_3 : v2.frozen? ⟨w.heap.size + 1, 1, none⟩ = false := (hb2.frozen (p := ⟨w.heap.size + 1, 1, none⟩) (by first | omega | (simp [ext_size]; try omega))).trans (by (simp (maxDischargeDepth := 8) [go_sem, World.cell?_alloc_past, ltk2, ltk3, ltk4, ltk5, ltk6, ltk7, ltk8, ltk9, *]))
          have zl2_0 : w.heap.size < v2.heap.size := by omega
          have zl2_1 : w.heap.size + 1 < v2.heap.size := by omega
          have hB2 : Below w.heap.size w v2 := Below.trans (by (repeat (first | with_reducible exact hB1 | (with_reducible refine bext ?_ _ _) | (with_reducible refine below_drewN ?_ _) | (with_reducible refine Below.drew ?_) | (with_reducible refine bal ?_ _) | (with_reducible refine bset ?_ (by first | omega | (simp <;> omega)) _)))) (hb2.mono (by first | omega | (simp [ext_size]; try omega)))
          have zw2 := hB2.size
          clear hb2
          clear cc1_0 cc1_1 cc1_2 cc1_3 cf1_0 cf1_1 cf1_2 cf1_3 zl1_0 zl1_1 zz1 zw1 hB1
          clear dAl dSt xC xF xS xN xD xL xE xG xX xL1 xL2 xL3 xM0 xM1 xM2 A1 A2
          go_wp2
          go_roundg (m - (i + 1))
          case measure => have := HI.out; omega
          case rel =>
            refine ⟨i + 1, y1, y2, rfl, by go_num, by have := HI.out; omega, HQ, by (simp (maxDischargeDepth := 8) [go_sem, World.cell?_alloc_past, ltk2, ltk3, ltk4, ltk5, ltk6, ltk7, ltk8, ltk9, *]), by (simp (maxDischargeDepth := 8) [go_sem, World.cell?_alloc_past, ltk2, ltk3, ltk4, ltk5, ltk6, ltk7, ltk8, ltk9, *]), by (simp (maxDischargeDepth := 8) [go_sem, World.cell?_alloc_past, ltk2, ltk3, ltk4, ltk5, ltk6, ltk7, ltk8, ltk9, *]), by (simp (maxDischargeDepth := 8) [go_sem, World.cell?_alloc_past, ltk2, ltk3, ltk4, ltk5, ltk6, ltk7, ltk8, ltk9, *]), by (simp (maxDischargeDepth := 8) [go_sem, World.cell?_alloc_past, ltk2, ltk3, ltk4, ltk5, ltk6, ltk7, ltk8, ltk9, *]), by (simp (maxDischargeDepth := 8) [go_sem, World.cell?_alloc_past, ltk2, ltk3, ltk4, ltk5, ltk6, ltk7, ltk8, ltk9, *]), by (simp (maxDischargeDepth := 8) [go_sem, World.cell?_alloc_past, ltk2, ltk3, ltk4, ltk5, ltk6, ltk7, ltk8, ltk9, *]), by (simp (maxDischargeDepth := 8) [go_sem, World.cell?_alloc_past, ltk2, ltk3, ltk4, ltk5, ltk6, ltk7, ltk8, ltk9, *]), by (simp; try omega), by (repeat (first | with_reducible exact hB2 | (with_reducible refine bext ?_ _ _) | (with_reducible refine below_drewN ?_ _) | (with_reducible refine Below.drew ?_) | (with_reducible refine bal ?_ _) | (with_reducible refine bset ?_ (by first | omega | (simp <;> omega)) _)))⟩
        · subst k1
          rw [if_pos rfl, if_neg k2] at hq
          have k2' : (y3 != 0) = true := by simp [k2]
          have HQ := Lib.hid hq
          clear hq k2
          go_wp2_with fail
          with_reducible refine (A1 _).mono ?_
          rintro e v1 ⟨rfl, hb1⟩
          have zz1 := hb1.size
          try simp [ext_size] at zz1
          have cc1_0 : v1.cell? ⟨w.heap.size, 0, none⟩ = some (.int .i64 0) := (hb1.cell (p := ⟨w.heap.size, 0, none⟩) (by first | omega | (simp [ext_size]; try omega))).trans (by (simp (maxDischargeDepth := 8) [go_sem, World.cell?_alloc_past, ltk2, ltk3, ltk4, ltk5, ltk6, ltk7, ltk8, ltk9, *]))
          have cc1_1 : v1.cell? ⟨w.heap.size, 1, none⟩ = some (.int .i64 0) := (hb1.cell (p := ⟨w.heap.size, 1, none⟩) (by first | omega | (simp [ext_size]; try omega))).trans (by (simp (maxDischargeDepth := 8) [go_sem, World.cell?_alloc_past, ltk2, ltk3, ltk4, ltk5, ltk6, ltk7, ltk8, ltk9, *]))
          have cc1_2 : v1.cell? ⟨w.heap.size + 1, 0, none⟩ = some (.int .i64 l) := (hb1.cell (p := ⟨w.heap.size + 1, 0, none⟩) (by first | omega | (simp [ext_size]; try omega))).trans (by (simp (maxDischargeDepth := 8) [go_sem, World.cell?_alloc_past, ltk2, ltk3, ltk4, ltk5, ltk6, ltk7, ltk8, ltk9, *]))
          have cc1_3 : v1.cell? ⟨w.heap.size + 1, 1, none⟩ = some (.int .i64 h) := (hb1.cell (p := ⟨w.heap.size + 1, 1, none⟩) (by first | omega | (simp [ext_size]; try omega))).trans (by (simp (maxDischargeDepth := 8) [go_sem, World.cell?_alloc_past, ltk2, ltk3, ltk4, ltk5, ltk6, ltk7, ltk8, ltk9, *]))
          have cf1_0 : v1.frozen? ⟨w.heap.size, 0, none⟩ = false := (hb1.frozen (p := ⟨w.heap.size, 0, none⟩) (by first | omega | (simp [ext_size]; try omega))).trans (by (simp (maxDischargeDepth := 8) [go_sem, World.cell?_alloc_past, ltk2, ltk3, ltk4, ltk5, ltk6, ltk7, ltk8, ltk9, *]))
          have cf1_1 : v1.frozen? ⟨w.heap.size, 1, none⟩ = false := (hb1.frozen (p := ⟨w.heap.size, 1, none⟩) (by first | omega | (simp [ext_size]; try omega))).trans (by (simp (maxDischargeDepth := 8) [go_sem, World.cell?_alloc_past, ltk2, ltk3, ltk4, ltk5, ltk6, ltk7, ltk8, ltk9, *]))
          have cf1_2 : v1.frozen? ⟨w.heap.size + 1, 0, none⟩ = false := (hb1.frozen (p := ⟨w.heap.size + 1, 0, none⟩) (by first | omega | (simp [ext_size]; try omega))).trans (by (simp (maxDischargeDepth := 8) [go_sem, World.cell?_alloc_past, ltk2, ltk3, ltk4, ltk5, ltk6, ltk7, ltk8, ltk9, *]))
          have cf1_3 : v1.frozen? ⟨w.heap.size + 1, 1, none⟩ = false := (hb1.frozen (p := ⟨w.heap.size + 1, 1, none⟩) (by first | omega | (simp [ext_size]; try omega))).trans (by (simp (maxDischargeDepth := 8) [go_sem, World.cell?_alloc_past, ltk2, ltk3, ltk4, ltk5, ltk6, ltk7, ltk8, ltk9, *]))
          have zl1_0 : w.heap.size < v1.heap.size := by omega
          have zl1_1 : w.heap.size + 1 < v1.heap.size := by omega
          have hB1 : Below w.heap.size w v1 := Below.trans (by (repeat (first | with_reducible exact hbr | (with_reducible refine bext ?_ _ _) | (with_reducible refine below_drewN ?_ _) | (with_reducible refine Below.drew ?_) | (with_reducible refine bal ?_ _) | (with_reducible refine bset ?_ (by first | omega | (simp <;> omega)) _)))) (hb1.mono (by first | omega | (simp [ext_size]; try omega)))
          have zw1 := hB1.size
          clear hb1
          go_wp2_with fail
          with_reducible refine (A2 _).mono ?_
          rintro e v2 ⟨rfl, hb2⟩
          have zz2 := hb2.size
          try simp [ext_size] at zz2
          have cc2_0 : v2.cell? ⟨w.heap.size, 0, none⟩ = some (.int .i64 0) := (hb2.cell (p := ⟨w.heap.size, 0, none⟩) (by first | omega | (simp [ext_size]; try omega))).trans (by (simp (maxDischargeDepth := 8) [go_sem, World.cell?_alloc_past, ltk2, ltk3, ltk4, ltk5, ltk6, ltk7, ltk8, ltk9, *]))
          have cc2_1 : v2.cell? ⟨w.heap.size, 1, none⟩ = some (.int .i64 0) := (hb2.cell (p := ⟨w.heap.size, 1, none⟩) (by first | omega | (simp [ext_size]; try omega))).trans (by (simp (maxDischargeDepth := 8) [go_sem, World.cell?_alloc_past, ltk2, ltk3, ltk4, ltk5, ltk6, ltk7, ltk8, ltk9, *]))
          have cc2_2 : v2.cell? ⟨w.heap.size + 1, 0, none⟩ = some (.int .i64 l) := (hb2.cell (p := ⟨w.heap.size + 1, 0, none⟩) (by first | omega | (simp [ext_size]; try omega))).trans (by (simp (maxDischargeDepth := 8) [go_sem, World.cell?_alloc_past, ltk2, ltk3, ltk4, ltk5, ltk6, ltk7, ltk8, ltk9, *]))
          have cc2_3 : v2.cell? ⟨w.heap.size + 1, 1, none⟩ = some (.int .i64 h) := (hb2.cell (p := ⟨w.heap.size + 1, 1, none⟩) (by first | omega | (simp [ext_size]; try omega))).trans (by (simp (maxDischargeDepth := 8) [go_sem, World.cell?_alloc_past, ltk2, ltk3, ltk4, ltk5, ltk6, ltk7, ltk8, ltk9, *]))
          have cf2_0 : v2.frozen? ⟨w.heap.size, 0, none⟩ = false := (hb2.frozen (p := ⟨w.heap.size, 0, none⟩) (by first | omega | (simp [ext_size]; try omega))).trans (by (simp (maxDischargeDepth := 8) [go_sem, World.cell?_alloc_past, ltk2, ltk3, ltk4, ltk5, ltk6, ltk7, ltk8, ltk9, *]))
          have cf2_1 : v2.frozen? ⟨w.heap.size, 1, none⟩ = false := (hb2.frozen (p := ⟨w.heap.size, 1, none⟩) (by first | omega | (simp [ext_size]; try omega))).trans (by (simp (maxDischargeDepth := 8) [go_sem, World.cell?_alloc_past, ltk2, ltk3, ltk4, ltk5, ltk6, ltk7, ltk8, ltk9, *]))
          have cf2_2 : v2.frozen? ⟨w.heap.size + 1, 0, none⟩ = false := (hb2.frozen (p := ⟨w.heap.size + 1, 0, none⟩) (by first | omega | (simp [ext_size]; try omega))).trans (by (simp (maxDischargeDepth := 8) [go_sem, World.cell?_alloc_past, ltk2, ltk3, ltk4, ltk5, ltk6, ltk7, ltk8, ltk9, *]))
          have cf2_3 : v2.frozen? ⟨w.heap.size + 1, 1, none⟩ = false := (hb2.frozen (p := ⟨w.heap.size + 1, 1, none⟩) (by first | omega | (simp [ext_size]; try omega))).trans (by (simp (maxDischargeDepth := 8) [go_sem, World.cell?_alloc_past, ltk2, ltk3, ltk4, ltk5, ltk6, ltk7, ltk8, ltk9, *]))
          have zl2_0 : w.heap.size < v2.heap.size := by omega
          have zl2_1 : w.heap.size + 1 < v2.heap.size := by omega
          have hB2 : Below w.heap.size w v2 := Below.trans (by (repeat (first | with_reducible exact hB1 | (with_reducible refine bext ?_ _ _) | (with_reducible refine below_drewN ?_ _) | (with_reducible refine Below.drew ?_) | (with_reducible refine bal ?_ _) | (with_reducible refine bset ?_ (by first | omega | (simp <;> omega)) _)))) (hb2.mono (by first | omega | (simp [ext_size]; try omega)))
          have zw2 := hB2.size
          clear hb2
          clear cc1_0 cc1_1 cc1_2 cc1_3 cf1_0 cf1_1 cf1_2 cf1_3 zl1_0 zl1_1 zz1 zw1 hB1
          clear dAl dSt xC xF xS xN xD xL xE xG xX xL1 xL2 xL3 xM0 xM1 xM2 A1 A2
          go_wp2
          refine bodyPost_ret (by simp [results, Try.results37, go_sem, ext_cell, World.cell?_alloc_past, ltk2, ltk3, ltk4, ltk5, ltk6, ltk7, ltk8, ltk9, *]; try rfl) rfl ?_
          exact ⟨by rw [← HQ.out], by (repeat (first | with_reducible exact hB2 | (with_reducible refine bext ?_ _ _) | (with_reducible refine below_drewN ?_ _) | (with_reducible refine Below.drew ?_) | (with_reducible refine bal ?_ _) | (with_reducible refine bset ?_ (by first | omega | (simp <;> omega)) _)))⟩
      · have k1' : (x3 != 0) = true := by simp [k1]
        rw [if_neg k1] at hq
        have HQ := Lib.hid hq
        clear hq k1
        go_wp2_with fail
        with_reducible refine (A1 _).mono ?_
        rintro e v1 ⟨rfl, hb1⟩
        have zz1 := hb1.size
        try simp [ext_size] at zz1
        have cc1_0 : v1.cell? ⟨w.heap.size, 0, none⟩ = some (.int .i64 0) := (hb1.cell (p := ⟨w.heap.size, 0, none⟩) (by first | omega | (simp [ext_size]; try omega))).trans (by (simp (maxDischargeDepth := 8) [go_sem, World.cell?_alloc_past, ltk2, ltk3, ltk4, ltk5, ltk6, ltk7, ltk8, ltk9, *]))
        have cc1_1 : v1.cell? ⟨w.heap.size, 1, none⟩ = some (.int .i64 0) := (hb1.cell (p := ⟨w.heap.size, 1, none⟩) (by first | omega | (simp [ext_size]; try omega))).trans (by (simp (maxDischargeDepth := 8) [go_sem, World.cell?_alloc_past, ltk2, ltk3, ltk4, ltk5, ltk6, ltk7, ltk8, ltk9, *]))
        have cc1_2 : v1.cell? ⟨w.heap.size + 1, 0, none⟩ = some (.int .i64 l) := (hb1.cell (p := ⟨w.heap.size + 1, 0, none⟩) (by first | omega | (simp [ext_size]; try omega))).trans (by (simp (maxDischargeDepth := 8) [go_sem, World.cell?_alloc_past, ltk2, ltk3, ltk4, ltk5, ltk6, ltk7, ltk8, ltk9, *]))
        have cc1_3 : v1.cell? ⟨w.heap.size + 1, 1, none⟩ = some (.int .i64 h) := (hb1.cell (p := ⟨w.heap.size + 1, 1, none⟩) (by first | omega | (simp [ext_size]; try omega))).trans (by (simp (maxDischargeDepth := 8) [go_sem, World.cell?_alloc_past, ltk2, ltk3, ltk4, ltk5, ltk6, ltk7, ltk8, ltk9, *]))
        have cf1_0 : v1.frozen? ⟨w.heap.size, 0, none⟩ = false := (hb1.frozen (p := ⟨w.heap.size, 0, none⟩) (by first | omega | (simp [ext_size]; try omega))).trans (by (simp (maxDischargeDepth := 8) [go_sem, World.cell?_alloc_past, ltk2, ltk3, ltk4, ltk5, ltk6, ltk7, ltk8, ltk9, *]))
        have cf1_1 : v1.frozen? ⟨w.heap.size, 1, none⟩ = false := (hb1.frozen (p := ⟨w.heap.size, 1, none⟩) (by first | omega | (simp [ext_size]; try omega))).trans (by (simp (maxDischargeDepth := 8) [go_sem, World.cell?_alloc_past, ltk2, ltk3, ltk4, ltk5, ltk6, ltk7, ltk8, ltk9, *]))
        have cf1_2 : v1.frozen? ⟨w.heap.size + 1, 0, none⟩ = false := (hb1.frozen (p := ⟨w.heap.size + 1, 0, none⟩) (by first | omega | (simp [ext_size]; try omega))).trans (by (simp (maxDischargeDepth := 8) [go_sem, World.cell?_alloc_past, ltk2, ltk3, ltk4, ltk5, ltk6, ltk7, ltk8, ltk9, *]))
        have cf1_3 : v1.frozen? ⟨w.heap.size + 1, 1, none⟩ = false := (hb1.frozen (p := ⟨w.heap.size + 1, 1, none⟩) (by first | omega | (simp [ext_size]; try omega))).trans (by (simp (maxDischargeDepth := 8) [go_sem, World.cell?_alloc_past, ltk2, ltk3, ltk4, ltk5, ltk6, ltk7, ltk8, ltk9, *]))
        have zl1_0 : w.heap.size < v1.heap.size := by omega
        have zl1_1 : w.heap.size + 1 < v1.heap.size := by omega
        have hB1 : Below w.heap.size w v1 := Below.trans (by (repeat (first | with_reducible exact hbr | (with_reducible refine bext ?_ _ _) | (with_reducible refine below_drewN ?_ _) | (with_reducible refine Below.drew ?_) | (with_reducible refine bal ?_ _) | (with_reducible refine bset ?_ (by first | omega | (simp <;> omega)) _)))) (hb1.mono (by first | omega | (simp [ext_size]; try omega)))
        have zw1 := hB1.size
        clear hb1
        clear dAl dSt xC xF xS xN xD xL xE xG xX xL1 xL2 xL3 xM0 xM1 xM2 A1 A2
        go_wp2
        refine bodyPost_ret (by simp [results, Try.results37, go_sem, ext_cell, World.cell?_alloc_past, ltk2, ltk3, ltk4, ltk5, ltk6, ltk7, ltk8, ltk9, *]; try rfl) rfl ?_
        exact ⟨by rw [← HQ.out], by (repeat (first | with_reducible exact hB1 | (with_reducible refine bext ?_ _ _) | (with_reducible refine below_drewN ?_ _) | (with_reducible refine Below.drew ?_) | (with_reducible refine bal ?_ _) | (with_reducible refine bset ?_ (by first | omega | (simp <;> omega)) _)))⟩
    · have zi : ((i : Int) < (m : Int)) = False := by simp; omega
      have hq := HQ.out
      rw [quads_end P hi, suR] at hq
      have HQ2 := Lib.hid hq
      clear hq HQ cR hi
      clear dAl dSt xC xF xS xN xD xL xE xG xX xL1 xL2 xL3 xM0 xM1 xM2
      go_wp2
      refine bodyPost_ret (by simp [results, Try.results37, go_sem, ext_cell, World.cell?_alloc_past, ltk2, ltk3, ltk4, ltk5, ltk6, ltk7, ltk8, ltk9, *]; try rfl) rfl ?_
      exact ⟨by rw [← HQ2.out], by (repeat (first | with_reducible exact hbr | (with_reducible refine bext ?_ _ _) | (with_reducible refine below_drewN ?_ _) | (with_reducible refine Below.drew ?_) | (with_reducible refine bal ?_ _) | (with_reducible refine bset ?_ (by first | omega | (simp <;> omega)) _)))⟩
end Go.Proofs.Ytmjbeplcabomdaa
namespace Go.Proofs.Ytmjbeplcabomdaa
open Go.RowKit
set_option linter.unusedVariables false
set_option linter.unusedSimpArgs false
theorem sg_ok {a b : Int} (h : spV a b = true) : (sgE a b == 8) = false := by
  unfold sgE
  rw [if_pos h]
  split
  · rfl
  · split
    · rfl
    · split <;> rfl
theorem sg_bad {a b : Int} (h : spV a b = false) : (sgE a b == 8) = true ∧ sgE a b = 8 := by
  unfold sgE
  rw [if_neg (by simp [h])]
  exact ⟨rfl, rfl⟩
/-- A direction in a row is valid. -/
def dV (P : Nat → Int) (i : Nat) : Prop := spV (P (i * 6)) (P (i * 6 + 1)) = true ∧ spV (P (i * 6 + 2)) (P (i * 6 + 3)) = true ∧ spV (P (i * 6 + 4)) (P (i * 6 + 5)) = true

set_option maxRecDepth 100000 in
set_option maxHeartbeats 3200000 in
theorem track_check_ok (P : Nat → Int) (g cap m : Nat) (hm : m ≤ 1000) (hv : ∀ i, i < m → dV P i) (w : World) (hg : g < w.heap.size) (hc : ∀ o, o < 6 * m → w.cell? ⟨g, o, none⟩ = some (.int .i64 (P o))) :
    Calls Try.prog 31 #[.slice (some ⟨g, 0, none⟩) m cap] w fun x w' => x = .returned (.int .i64 0) ∧ Below w.heap.size w w' := by
  have cC : Cs w g (6 * m) P := hc
  have CC := Lib.hid cC
  have HG := Lib.hid hg
  have HV := Lib.hid hv
  clear hc cC hv
  have dAl := dAl; have dSt := dSt; have xC := ext_cell; have xF := ext_frozen; have xS := ext_set; have xN := ext_drewN; have xD := ext_drew; have xL := ext_lt; have xE := ext_ne; have xG := ext_nr; have xX := ext_ext; have xL1 := ext_lt1; have xL2 := ext_lt2; have xL3 := ext_lt3; have xM0 := ext_le0; have xM1 := ext_le1; have xM2 := ext_le2
  go_enter Try.func31, Try.ntmps31
  go_wp2_with fail
  go_loopg [11] m (fun kk s11 wr => ∃ (i : Nat), kk = m - i ∧ s11 = .int .i64 i ∧ i ≤ m ∧ Below w.heap.size w wr)
  case atStart => exact ⟨0, rfl, rfl, by omega, by (repeat (first | with_reducible exact b0 _ | (with_reducible refine bext ?_ _ _) | (with_reducible refine below_drewN ?_ _) | (with_reducible refine Below.drew ?_) | (with_reducible refine bal ?_ _)))⟩
  case round =>
    obtain ⟨i, rfl, rfl, him, hbr⟩ := hrel
    have cR := Lib.hid (cs_below CC.out hbr HG.out)
    have zr : g < wr.heap.size := Nat.lt_of_lt_of_le hg hbr.size
    have zwr := hbr.size
    clear hg
    by_cases hi : i < m
    · have zi : ((i : Int) < (m : Int)) = True := by simp; omega
      obtain ⟨u1, u2, u3⟩ := HV.out i hi
      have e0 := cR.out (i * 6) (by omega)
      have e1 := cR.out (i * 6 + 1) (by omega)
      have e2 := cR.out (i * 6 + 2) (by omega)
      have e3 := cR.out (i * 6 + 3) (by omega)
      have e4 := cR.out (i * 6 + 4) (by omega)
      have e5 := cR.out (i * 6 + 5) (by omega)
      have q1 := sg_ok u1
      have q2 := sg_ok u2
      have q3 := sg_ok u3
      clear u1 u2 u3
      have HI := Lib.hid hi
      have i40 : i < 1000 := by omega
      clear hi him cR
      generalize P (i * 6) = p0 at *
      generalize P (i * 6 + 1) = p1 at *
      generalize P (i * 6 + 2) = p2 at *
      generalize P (i * 6 + 3) = p3 at *
      generalize P (i * 6 + 4) = p4 at *
      generalize P (i * 6 + 5) = p5 at *
      have A1 := fun w => sine_Sign p0 p1 w
      have A2 := fun w => sine_Sign p2 p3 w
      have A3 := fun w => sine_Sign p4 p5 w
      generalize sgE p0 p1 = x1 at *
      generalize sgV p0 p1 = y1 at *
      generalize sgE p2 p3 = x2 at *
      generalize sgV p2 p3 = y2 at *
      generalize sgE p4 p5 = x3 at *
      generalize sgV p4 p5 = y3 at *
      go_wp2_with fail
      refine wp_loop_rounds 4 ?_
      rw [rounds_succ]
      go_wp2_with fail
      with_reducible refine (A1 _).mono ?_
      rintro e v1 ⟨rfl, hb1⟩
      have zz1 := hb1.size
      try simp [ext_size] at zz1
      have cc1_0 : v1.cell? ⟨wr.heap.size + 1, 0, none⟩ = some (.int .i64 p0) := (hb1.cell (p := ⟨wr.heap.size + 1, 0, none⟩) (by first | omega | (simp [ext_size]; try omega))).trans (by (simp (maxDischargeDepth := 8) [go_sem, World.cell?_alloc_past, ltk2, ltk3, ltk4, ltk5, ltk6, ltk7, ltk8, ltk9, *]))
      have cc1_1 : v1.cell? ⟨wr.heap.size + 1, 1, none⟩ = some (.int .i64 p1) := (hb1.cell (p := ⟨wr.heap.size + 1, 1, none⟩) (by first | omega | (simp [ext_size]; try omega))).trans (by (simp (maxDischargeDepth := 8) [go_sem, World.cell?_alloc_past, ltk2, ltk3, ltk4, ltk5, ltk6, ltk7, ltk8, ltk9, *]))
      have cc1_2 : v1.cell? ⟨wr.heap.size + 1, 2, none⟩ = some (.int .i64 p2) := (hb1.cell (p := ⟨wr.heap.size + 1, 2, none⟩) (by first | omega | (simp [ext_size]; try omega))).trans (by (simp (maxDischargeDepth := 8) [go_sem, World.cell?_alloc_past, ltk2, ltk3, ltk4, ltk5, ltk6, ltk7, ltk8, ltk9, *]))
      have cc1_3 : v1.cell? ⟨wr.heap.size + 1, 3, none⟩ = some (.int .i64 p3) := (hb1.cell (p := ⟨wr.heap.size + 1, 3, none⟩) (by first | omega | (simp [ext_size]; try omega))).trans (by (simp (maxDischargeDepth := 8) [go_sem, World.cell?_alloc_past, ltk2, ltk3, ltk4, ltk5, ltk6, ltk7, ltk8, ltk9, *]))
      have cc1_4 : v1.cell? ⟨wr.heap.size + 1, 4, none⟩ = some (.int .i64 p4) := (hb1.cell (p := ⟨wr.heap.size + 1, 4, none⟩) (by first | omega | (simp [ext_size]; try omega))).trans (by (simp (maxDischargeDepth := 8) [go_sem, World.cell?_alloc_past, ltk2, ltk3, ltk4, ltk5, ltk6, ltk7, ltk8, ltk9, *]))
      have cc1_5 : v1.cell? ⟨wr.heap.size + 1, 5, none⟩ = some (.int .i64 p5) := (hb1.cell (p := ⟨wr.heap.size + 1, 5, none⟩) (by first | omega | (simp [ext_size]; try omega))).trans (by (simp (maxDischargeDepth := 8) [go_sem, World.cell?_alloc_past, ltk2, ltk3, ltk4, ltk5, ltk6, ltk7, ltk8, ltk9, *]))
      have zl1_0 : wr.heap.size + 1 < v1.heap.size := by omega
      have hB1 : Below w.heap.size w v1 := Below.trans (by (repeat (first | with_reducible exact hbr | (with_reducible refine bext ?_ _ _) | (with_reducible refine below_drewN ?_ _) | (with_reducible refine Below.drew ?_) | (with_reducible refine bal ?_ _) | (with_reducible refine bset ?_ (by first | omega | (simp <;> omega)) _)))) (hb1.mono (by first | omega | (simp [ext_size]; try omega)))
      have zw1 := hB1.size
      clear hb1
      go_wp2_with fail
      rw [rounds_succ]
      go_wp2_with fail
      with_reducible refine (A2 _).mono ?_
      rintro e v2 ⟨rfl, hb2⟩
      have zz2 := hb2.size
      try simp [ext_size] at zz2
      have cc2_0 : v2.cell? ⟨wr.heap.size + 1, 0, none⟩ = some (.int .i64 p0) := (hb2.cell (p := ⟨wr.heap.size + 1, 0, none⟩) (by first | omega | (simp [ext_size]; try omega))).trans (by (simp (maxDischargeDepth := 8) [go_sem, World.cell?_alloc_past, ltk2, ltk3, ltk4, ltk5, ltk6, ltk7, ltk8, ltk9, *]))
      have cc2_1 : v2.cell? ⟨wr.heap.size + 1, 1, none⟩ = some (.int .i64 p1) := (hb2.cell (p := ⟨wr.heap.size + 1, 1, none⟩) (by first | omega | (simp [ext_size]; try omega))).trans (by (simp (maxDischargeDepth := 8) [go_sem, World.cell?_alloc_past, ltk2, ltk3, ltk4, ltk5, ltk6, ltk7, ltk8, ltk9, *]))
      have cc2_2 : v2.cell? ⟨wr.heap.size + 1, 2, none⟩ = some (.int .i64 p2) := (hb2.cell (p := ⟨wr.heap.size + 1, 2, none⟩) (by first | omega | (simp [ext_size]; try omega))).trans (by (simp (maxDischargeDepth := 8) [go_sem, World.cell?_alloc_past, ltk2, ltk3, ltk4, ltk5, ltk6, ltk7, ltk8, ltk9, *]))
      have cc2_3 : v2.cell? ⟨wr.heap.size + 1, 3, none⟩ = some (.int .i64 p3) := (hb2.cell (p := ⟨wr.heap.size + 1, 3, none⟩) (by first | omega | (simp [ext_size]; try omega))).trans (by (simp (maxDischargeDepth := 8) [go_sem, World.cell?_alloc_past, ltk2, ltk3, ltk4, ltk5, ltk6, ltk7, ltk8, ltk9, *]))
      have cc2_4 : v2.cell? ⟨wr.heap.size + 1, 4, none⟩ = some (.int .i64 p4) := (hb2.cell (p := ⟨wr.heap.size + 1, 4, none⟩) (by first | omega | (simp [ext_size]; try omega))).trans (by (simp (maxDischargeDepth := 8) [go_sem, World.cell?_alloc_past, ltk2, ltk3, ltk4, ltk5, ltk6, ltk7, ltk8, ltk9, *]))
      have cc2_5 : v2.cell? ⟨wr.heap.size + 1, 5, none⟩ = some (.int .i64 p5) := (hb2.cell (p := ⟨wr.heap.size + 1, 5, none⟩) (by first | omega | (simp [ext_size]; try omega))).trans (by (simp (maxDischargeDepth := 8) [go_sem, World.cell?_alloc_past, ltk2, ltk3, ltk4, ltk5, ltk6, ltk7, ltk8, ltk9, *]))
      have zl2_0 : wr.heap.size + 1 < v2.heap.size := by omega
      have hB2 : Below w.heap.size w v2 := Below.trans (by (repeat (first | with_reducible exact hB1 | (with_reducible refine bext ?_ _ _) | (with_reducible refine below_drewN ?_ _) | (with_reducible refine Below.drew ?_) | (with_reducible refine bal ?_ _) | (with_reducible refine bset ?_ (by first | omega | (simp <;> omega)) _)))) (hb2.mono (by first | omega | (simp [ext_size]; try omega)))
      have zw2 := hB2.size
      clear hb2
      clear cc1_0 cc1_1 cc1_2 cc1_3 cc1_4 cc1_5 zl1_0 zz1 zw1 hB1
      go_wp2_with fail
      rw [rounds_succ]
      go_wp2_with fail
      with_reducible refine (A3 _).mono ?_
      rintro e v3 ⟨rfl, hb3⟩
      have zz3 := hb3.size
      try simp [ext_size] at zz3
      have cc3_0 : v3.cell? ⟨wr.heap.size + 1, 0, none⟩ = some (.int .i64 p0) := (hb3.cell (p := ⟨wr.heap.size + 1, 0, none⟩) (by first | omega | (simp [ext_size]; try omega))).trans (by (simp (maxDischargeDepth := 8) [go_sem, World.cell?_alloc_past, ltk2, ltk3, ltk4, ltk5, ltk6, ltk7, ltk8, ltk9, *]))
      have cc3_1 : v3.cell? ⟨wr.heap.size + 1, 1, none⟩ = some (.int .i64 p1) := (hb3.cell (p := ⟨wr.heap.size + 1, 1, none⟩) (by first | omega | (simp [ext_size]; try omega))).trans (by (simp (maxDischargeDepth := 8) [go_sem, World.cell?_alloc_past, ltk2, ltk3, ltk4, ltk5, ltk6, ltk7, ltk8, ltk9, *]))
      have cc3_2 : v3.cell? ⟨wr.heap.size + 1, 2, none⟩ = some (.int .i64 p2) := (hb3.cell (p := ⟨wr.heap.size + 1, 2, none⟩) (by first | omega | (simp [ext_size]; try omega))).trans (by (simp (maxDischargeDepth := 8) [go_sem, World.cell?_alloc_past, ltk2, ltk3, ltk4, ltk5, ltk6, ltk7, ltk8, ltk9, *]))
      have cc3_3 : v3.cell? ⟨wr.heap.size + 1, 3, none⟩ = some (.int .i64 p3) := (hb3.cell (p := ⟨wr.heap.size + 1, 3, none⟩) (by first | omega | (simp [ext_size]; try omega))).trans (by (simp (maxDischargeDepth := 8) [go_sem, World.cell?_alloc_past, ltk2, ltk3, ltk4, ltk5, ltk6, ltk7, ltk8, ltk9, *]))
      have cc3_4 : v3.cell? ⟨wr.heap.size + 1, 4, none⟩ = some (.int .i64 p4) := (hb3.cell (p := ⟨wr.heap.size + 1, 4, none⟩) (by first | omega | (simp [ext_size]; try omega))).trans (by (simp (maxDischargeDepth := 8) [go_sem, World.cell?_alloc_past, ltk2, ltk3, ltk4, ltk5, ltk6, ltk7, ltk8, ltk9, *]))
      have cc3_5 : v3.cell? ⟨wr.heap.size + 1, 5, none⟩ = some (.int .i64 p5) := (hb3.cell (p := ⟨wr.heap.size + 1, 5, none⟩) (by first | omega | (simp [ext_size]; try omega))).trans (by (simp (maxDischargeDepth := 8) [go_sem, World.cell?_alloc_past, ltk2, ltk3, ltk4, ltk5, ltk6, ltk7, ltk8, ltk9, *]))
      have zl3_0 : wr.heap.size + 1 < v3.heap.size := by omega
      have hB3 : Below w.heap.size w v3 := Below.trans (by (repeat (first | with_reducible exact hB2 | (with_reducible refine bext ?_ _ _) | (with_reducible refine below_drewN ?_ _) | (with_reducible refine Below.drew ?_) | (with_reducible refine bal ?_ _) | (with_reducible refine bset ?_ (by first | omega | (simp <;> omega)) _)))) (hb3.mono (by first | omega | (simp [ext_size]; try omega)))
      have zw3 := hB3.size
      clear hb3
      clear cc2_0 cc2_1 cc2_2 cc2_3 cc2_4 cc2_5 zl2_0 zz2 zw2 hB2
      go_wp2_with fail
      rw [rounds_succ]
      go_wp2_with fail
      go_roundg (m - (i + 1))
      case measure => have := HI.out; omega
      case rel => exact ⟨i + 1, rfl, by go_num, by have := HI.out; omega, by (repeat (first | with_reducible exact hB3 | (with_reducible refine bext ?_ _ _) | (with_reducible refine below_drewN ?_ _) | (with_reducible refine Below.drew ?_) | (with_reducible refine bal ?_ _) | (with_reducible refine bset ?_ (by first | omega | (simp <;> omega)) _)))⟩
    · have zi : ((i : Int) < (m : Int)) = False := by simp; omega
      clear cR
      go_wp2
      go_ret
      exact ⟨rfl, by (repeat (first | with_reducible exact hbr | (with_reducible refine bext ?_ _ _) | (with_reducible refine below_drewN ?_ _) | (with_reducible refine Below.drew ?_) | (with_reducible refine bal ?_ _) | (with_reducible refine bset ?_ (by first | omega | (simp <;> omega)) _)))⟩

set_option maxRecDepth 100000 in
set_option maxHeartbeats 3200000 in
theorem track_check_bad (P : Nat → Int) (g cap : Nat) (hv : spV (P 0) (P 1) = false) (w : World) (hg : g < w.heap.size) (hc : ∀ o, o < 6 → w.cell? ⟨g, o, none⟩ = some (.int .i64 (P o))) :
    Calls Try.prog 31 #[.slice (some ⟨g, 0, none⟩) 1 cap] w fun x w' => x = .returned (.int .i64 8) ∧ Below w.heap.size w w' := by
  have e0 := hc 0 (by omega)
  have e1 := hc 1 (by omega)
  have e2 := hc 2 (by omega)
  have e3 := hc 3 (by omega)
  have e4 := hc 4 (by omega)
  have e5 := hc 5 (by omega)
  obtain ⟨q1, q2⟩ := sg_bad hv
  have A1 := fun w => sine_Sign (P 0) (P 1) w
  clear hc hv
  generalize P 0 = p0 at *
  generalize P 1 = p1 at *
  generalize P 2 = p2 at *
  generalize P 3 = p3 at *
  generalize P 4 = p4 at *
  generalize P 5 = p5 at *
  rw [q2] at A1
  clear q1 q2
  generalize sgV p0 p1 = y1 at *
  have dAl := dAl; have dSt := dSt; have xC := ext_cell; have xF := ext_frozen; have xS := ext_set; have xN := ext_drewN; have xD := ext_drew; have xL := ext_lt; have xE := ext_ne; have xG := ext_nr; have xX := ext_ext; have xL1 := ext_lt1; have xL2 := ext_lt2; have xL3 := ext_lt3; have xM0 := ext_le0; have xM1 := ext_le1; have xM2 := ext_le2
  go_enter Try.func31, Try.ntmps31
  go_wp2_with fail
  refine wp_loop_rounds 1 ?_
  rw [rounds_succ]
  go_wp2_with fail
  refine wp_loop_rounds 1 ?_
  rw [rounds_succ]
  go_wp2_with fail
  with_reducible refine (A1 _).mono ?_
  rintro e v1 ⟨rfl, hb1⟩
  have zz1 := hb1.size
  try simp [ext_size] at zz1
  have hB1 : Below w.heap.size w v1 := Below.trans (by (repeat (first | with_reducible exact b0 _ | (with_reducible refine bext ?_ _ _) | (with_reducible refine below_drewN ?_ _) | (with_reducible refine Below.drew ?_) | (with_reducible refine bal ?_ _)))) (hb1.mono (by first | omega | (simp [ext_size]; try omega)))
  have zw1 := hB1.size
  clear hb1
  go_wp2
  go_ret
  exact ⟨rfl, by (repeat (first | with_reducible exact hB1 | (with_reducible refine bext ?_ _ _) | (with_reducible refine below_drewN ?_ _) | (with_reducible refine Below.drew ?_) | (with_reducible refine bal ?_ _) | (with_reducible refine bset ?_ (by first | omega | (simp <;> omega)) _)))⟩
end Go.Proofs.Ytmjbeplcabomdaa
