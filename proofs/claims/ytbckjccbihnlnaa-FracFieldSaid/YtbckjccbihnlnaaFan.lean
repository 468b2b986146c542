/-
  The examples of the chapter hold: the laws' own check.
-/
import Derived.Test.YtbckjccbihnlnaaFam
import Derived.Test.YtbckjccbihnlnaaFow
namespace Go.Proofs.Ytbckjccbihnlnaa
open Go.RowKit
set_option linter.unusedVariables false
set_option linter.unusedSimpArgs false

theorem all4 {P : Nat → Prop} (a : P 0) (b : P 1) (c : P 2) (d : P 3) : ∀ j, j < 4 → P j := by
  intro j hj
  rcases (show j = 0 ∨ j = 1 ∨ j = 2 ∨ j = 3 by omega) with rfl | rfl | rfl | rfl
  · exact a
  · exact b
  · exact c
  · exact d
theorem all2 {P : Nat → Prop} (a : P 0) (b : P 1) : ∀ j, j < 2 → P j := by
  intro j hj
  rcases (show j = 0 ∨ j = 1 by omega) with rfl | rfl
  · exact a
  · exact b
theorem exp1 (w : World) : Calls Try.prog 72 #[.agg #[.int .i64 43, .int .i64 30]] w fun e w' =>
    ∃ g cap : Nat, e = .returned (.tuple #[.slice (some ⟨g, 0, none⟩) 4 cap, .int .i64 0]) ∧ w.heap.size ≤ g ∧ g < w'.heap.size ∧
      (w'.cell? ⟨g, 0, none⟩ = some (.int .i64 1) ∧ w'.cell? ⟨g, 1, none⟩ = some (.int .i64 2) ∧ w'.cell? ⟨g, 2, none⟩ = some (.int .i64 3) ∧ w'.cell? ⟨g, 3, none⟩ = some (.int .i64 4)) ∧ Below w.heap.size w w' := by
  refine (frac_Expand_ok 43 30 ok4330 w).mono ?_
  rintro e w' ⟨v, B, rfl, hB, hown, hb⟩
  obtain ⟨g, cap, rfl, hg, hs, hc⟩ := own_cells hown (by rw [ex4330]; decide)
  rw [ex4330] at hc ⊢
  exact ⟨g, cap, rfl, by omega, hs, ⟨hc 0 (by decide), hc 1 (by decide), hc 2 (by decide), hc 3 (by decide)⟩, hb⟩
theorem exp2 (w : World) : Calls Try.prog 72 #[.agg #[.int .i64 (-7), .int .i64 2]] w fun e w' =>
    ∃ g cap : Nat, e = .returned (.tuple #[.slice (some ⟨g, 0, none⟩) 2 cap, .int .i64 0]) ∧ w.heap.size ≤ g ∧ g < w'.heap.size ∧
      (w'.cell? ⟨g, 0, none⟩ = some (.int .i64 (-4)) ∧ w'.cell? ⟨g, 1, none⟩ = some (.int .i64 2)) ∧ Below w.heap.size w w' := by
  refine (frac_Expand_ok (-7) 2 (by decide) w).mono ?_
  rintro e w' ⟨v, B, rfl, hB, hown, hb⟩
  obtain ⟨g, cap, rfl, hg, hs, hc⟩ := own_cells hown (by rw [ex72]; decide)
  rw [ex72] at hc ⊢
  exact ⟨g, cap, rfl, by omega, hs, ⟨hc 0 (by decide), hc 1 (by decide)⟩, hb⟩
theorem nearHalf (w : World) : Calls Try.prog 17 #[.agg #[.int .i64 1, .int .i64 2], .int .i64 1] w fun e w' =>
    e = .returned (.tuple #[.agg #[.int .i64 0, .int .i64 1], .int .i64 0]) ∧ Below w.heap.size w w' := by
  refine (frac_Near 1 2 1 (by decide) (by decide) (by decide) (by decide) (by decide) (by decide) w).mono ?_
  rintro e w' ⟨P, Q, E, hN, rfl, hb⟩
  obtain ⟨rfl, rfl, rfl⟩ := nearIs_unique nhalf hN
  exact ⟨rfl, hb⟩
theorem floor72 (w : World) : Calls Try.prog 74 #[.agg #[.int .i64 (-7), .int .i64 2]] w fun e w' => e = .returned (.tuple #[.int .i64 (-4), .int .i64 0]) ∧ Below w.heap.size w w' :=
  frac_Floor (-7) 2 (by decide) (by decide) (by decide) (by decide) w
theorem mulGreat (w : World) : Calls Try.prog 13 #[.agg #[.int .i64 1000000000000000000, .int .i64 3], .agg #[.int .i64 3, .int .i64 1000000000000000000]] w fun e w' => e = .returned (.tuple #[.agg #[.int .i64 1, .int .i64 1], .int .i64 0]) ∧ Below w.heap.size w w' :=
  frac_Mul 1000000000000000000 3 3 1000000000000000000 (by decide) (by decide) (by decide) (by decide) (by decide) (by decide) (by decide) (by decide) w

set_option maxRecDepth 100000 in
set_option maxHeartbeats 3200000 in
theorem law_alive (w : World) : Calls Try.prog 20 #[] w fun e w' => e = .returned (.bool true) ∧ Below w.heap.size w w' := by
  have O1 := fun w => law_of 43 30 w
  have O2 := fun w => law_of (-7) 2 w
  have O3 := fun w => law_of 1 2 w
  have O4 := fun w => law_of 1000000000000000000 3 w
  have O5 := fun w => law_of 3 1000000000000000000 w
  have dAl := dAl; have dSt := dSt; have xC := ext_cell; have xF := ext_frozen; have xS := ext_set; have xN := ext_drewN; have xD := ext_drew; have xL := ext_lt; have xE := ext_ne; have xG := ext_nr; have xX := ext_ext; have xL1 := ext_lt1; have xL2 := ext_lt2; have xL3 := ext_lt3; have xM0 := ext_le0; have xM1 := ext_le1; have xM2 := ext_le2
  go_enter Try.func20, Try.ntmps20
  go_wp2_with fail
  refine (O1 _).mono ?_
  rintro e w1 ⟨rfl, hb1⟩
  go_wp2_with fail
  refine (exp1 _).mono ?_
  rintro e w2 ⟨g1, cap1, rfl, hg1, hs1, ⟨x0, x1, x2, x3⟩, hb2⟩
  go_wp2_with fail
  refine (O2 _).mono ?_
  rintro e w3 ⟨rfl, hb3⟩
  go_wp2_with fail
  refine (exp2 _).mono ?_
  rintro e w4 ⟨g2, cap2, rfl, hg2, hs2, ⟨y0, y1⟩, hb4⟩
  go_wp2_with fail
  refine (O2 _).mono ?_
  rintro e w5 ⟨rfl, hb5⟩
  go_wp2_with fail
  refine (floor72 _).mono ?_
  rintro e w6 ⟨rfl, hb6⟩
  go_wp2_with fail
  refine (O3 _).mono ?_
  rintro e w7 ⟨rfl, hb7⟩
  go_wp2_with fail
  refine (nearHalf _).mono ?_
  rintro e w8 ⟨rfl, hb8⟩
  go_wp2_with fail
  refine (O4 _).mono ?_
  rintro e w9 ⟨rfl, hb9⟩
  go_wp2_with fail
  refine (O5 _).mono ?_
  rintro e wa ⟨rfl, hba⟩
  go_wp2_with fail
  refine (mulGreat _).mono ?_
  rintro e wb ⟨rfl, hbb⟩
  have B8 : Below w8.heap.size w8 wb := bt (bt (bt (bal (b0 _) _) hb9) hba) hbb
  have B4 : Below w4.heap.size w4 wb := bt (bt (bt (bt hb5 hb6) hb7) hb8) B8
  have B2 : Below w2.heap.size w2 wb := bt (bt hb3 hb4) B4
  have B0 : Below w.heap.size w wb := bt (bt hb1 hb2) B2
  have X0 := (B2.cell (p := ⟨g1, 0, none⟩) hs1).trans x0
  have X1 := (B2.cell (p := ⟨g1, 1, none⟩) hs1).trans x1
  have X2 := (B2.cell (p := ⟨g1, 2, none⟩) hs1).trans x2
  have X3 := (B2.cell (p := ⟨g1, 3, none⟩) hs1).trans x3
  have Y0 := (B4.cell (p := ⟨g2, 0, none⟩) hs2).trans y0
  have Y1 := (B4.cell (p := ⟨g2, 1, none⟩) hs2).trans y1
  have B9 : Below (w8.heap.size + 1) (w8.alloc (.cells #[.int .i64 0, .int .i64 1] 23)) wb := by
    have := bt (bt hb9 hba) hbb
    simpa using this
  have Z0 : wb.cell? ⟨w8.heap.size, 0, none⟩ = some (.int .i64 0) := (B9.cell (p := ⟨w8.heap.size, 0, none⟩) (by simp)).trans (by (simp (maxDischargeDepth := 8) [go_sem, World.cell?_alloc_past, ltk2, ltk3, ltk4, ltk5, ltk6, ltk7, ltk8, ltk9, *]))
  have Z1 : wb.cell? ⟨w8.heap.size, 1, none⟩ = some (.int .i64 1) := (B9.cell (p := ⟨w8.heap.size, 1, none⟩) (by simp)).trans (by (simp (maxDischargeDepth := 8) [go_sem, World.cell?_alloc_past, ltk2, ltk3, ltk4, ltk5, ltk6, ltk7, ltk8, ltk9, *]))
  have s8 : w8.heap.size < wb.heap.size := by have := B9.size; simp at this; omega
  have sg1 : g1 < wb.heap.size := by have := B2.size; omega
  have sg2 : g2 < wb.heap.size := by have := B4.size; omega
  clear hb1 hb2 hb3 hb4 hb5 hb6 hb7 hb8 hb9 hba hbb B8 B4 B2 B9 x0 x1 x2 x3 y0 y1 hg1 hg2 hs1 hs2
  go_wp2_with fail
  have N1 := fun w => law_near 1 1 1 n1 (by decide) (by decide) w
  have N2 := fun w => law_near 2 3 2 n2 (by decide) (by decide) w
  have N3 := fun w => law_near 7 10 7 n7 (by decide) (by decide) w
  have N4 := fun w => law_near 16 23 16 n16 (by decide) (by decide) w
  have N5 := fun w => law_near 29 33 23 n29 (by decide) (by decide) w
  have O6 := fun w => law_of 0 1 w
  have O7 := fun w => law_of 1 1 w
  clear O1 O2 O3 O4 O5
  have dz1 : ∀ (W : World) (l : List Obj) (d : Nat), (ext W.drew l d) = (ext W l d) := fun _ _ _ => rfl
  have dz2 : ∀ (W : World) (l : List Obj) (n d : Nat), (ext (W.drewN n) l d) = (ext W l d) := fun _ _ _ _ => rfl
  go_region_held3 (fun w' => w'.cell? ⟨g1, 0, none⟩ = some (.int .i64 1) ∧ w'.cell? ⟨g1, 1, none⟩ = some (.int .i64 2) ∧ w'.cell? ⟨g1, 2, none⟩ = some (.int .i64 3) ∧ w'.cell? ⟨g1, 3, none⟩ = some (.int .i64 4) ∧ w'.cell? ⟨g2, 0, none⟩ = some (.int .i64 (-4)) ∧ w'.cell? ⟨g2, 1, none⟩ = some (.int .i64 2) ∧ w'.cell? ⟨w8.heap.size, 0, none⟩ = some (.int .i64 0) ∧ w'.cell? ⟨w8.heap.size, 1, none⟩ = some (.int .i64 1) ∧ w'.cell? ⟨wb.heap.size, 0, none⟩ = some (.int .i64 1) ∧ w'.cell? ⟨wb.heap.size, 1, none⟩ = some (.int .i64 1)) (simp (maxDischargeDepth := 8) [go_sem, World.cell?_alloc_past, ltk2, ltk3, ltk4, ltk5, ltk6, ltk7, ltk8, ltk9, *])
    ((first
      | (go_at_call 76; (first | with_reducible refine (N1 _).mono ?_ | with_reducible refine (N2 _).mono ?_ | with_reducible refine (N3 _).mono ?_ | with_reducible refine (N4 _).mono ?_ | with_reducible refine (N5 _).mono ?_); rintro e w' ⟨rfl, hb⟩; obtain ⟨l, d, rfl⟩ := toExt hb; clear hb)
      | (go_at_call 73; (first | with_reducible refine (O6 _).mono ?_ | with_reducible refine (O7 _).mono ?_); rintro e w' ⟨rfl, hb⟩; obtain ⟨l, d, rfl⟩ := toExt hb; clear hb)
      | (go_at_call 75; with_reducible refine Calls.mono (law_same [1, 2, 3, 4] 4 (by decide) (by decide) g1 _ cap1 4 _ (all4 ?_ ?_ ?_ ?_) (all4 ?_ ?_ ?_ ?_)) ?_; (simp (maxDischargeDepth := 8) [go_sem, World.cell?_alloc_past, ltk2, ltk3, ltk4, ltk5, ltk6, ltk7, ltk8, ltk9, *]); (simp (maxDischargeDepth := 8) [go_sem, World.cell?_alloc_past, ltk2, ltk3, ltk4, ltk5, ltk6, ltk7, ltk8, ltk9, *]); (simp (maxDischargeDepth := 8) [go_sem, World.cell?_alloc_past, ltk2, ltk3, ltk4, ltk5, ltk6, ltk7, ltk8, ltk9, *]); (simp (maxDischargeDepth := 8) [go_sem, World.cell?_alloc_past, ltk2, ltk3, ltk4, ltk5, ltk6, ltk7, ltk8, ltk9, *]); (simp (maxDischargeDepth := 8) [go_sem, World.cell?_alloc_past, ltk2, ltk3, ltk4, ltk5, ltk6, ltk7, ltk8, ltk9, *]); (simp (maxDischargeDepth := 8) [go_sem, World.cell?_alloc_past, ltk2, ltk3, ltk4, ltk5, ltk6, ltk7, ltk8, ltk9, *]); (simp (maxDischargeDepth := 8) [go_sem, World.cell?_alloc_past, ltk2, ltk3, ltk4, ltk5, ltk6, ltk7, ltk8, ltk9, *]); (simp (maxDischargeDepth := 8) [go_sem, World.cell?_alloc_past, ltk2, ltk3, ltk4, ltk5, ltk6, ltk7, ltk8, ltk9, *]); rintro e w' ⟨rfl, hb⟩; obtain ⟨l, d, rfl⟩ := toExt hb; clear hb)
      | (go_at_call 75; with_reducible refine Calls.mono (law_same [-4, 2] 2 (by decide) (by decide) g2 _ cap2 2 _ (all2 ?_ ?_) (all2 ?_ ?_)) ?_; (simp (maxDischargeDepth := 8) [go_sem, World.cell?_alloc_past, ltk2, ltk3, ltk4, ltk5, ltk6, ltk7, ltk8, ltk9, *]); (simp (maxDischargeDepth := 8) [go_sem, World.cell?_alloc_past, ltk2, ltk3, ltk4, ltk5, ltk6, ltk7, ltk8, ltk9, *]); (simp (maxDischargeDepth := 8) [go_sem, World.cell?_alloc_past, ltk2, ltk3, ltk4, ltk5, ltk6, ltk7, ltk8, ltk9, *]); (simp (maxDischargeDepth := 8) [go_sem, World.cell?_alloc_past, ltk2, ltk3, ltk4, ltk5, ltk6, ltk7, ltk8, ltk9, *]); rintro e w' ⟨rfl, hb⟩; obtain ⟨l, d, rfl⟩ := toExt hb; clear hb)))
  all_goals (try go_wp2)
  all_goals go_ret
  all_goals exact ⟨rfl, by (repeat (first | with_reducible exact B0 | (with_reducible refine bext ?_ _ _) | (with_reducible refine below_drewN ?_ _) | (with_reducible refine Below.drew ?_) | (with_reducible refine bal ?_ _) | (with_reducible refine bset ?_ (by first | omega | (simp <;> omega)) _)))⟩
end Go.Proofs.Ytbckjccbihnlnaa
