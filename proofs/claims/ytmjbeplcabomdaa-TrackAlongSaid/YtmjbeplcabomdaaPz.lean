/-
  TrackAlong, walked.
-/
import Derived.Test.YtmjbeplcabomdaaPx
import Derived.Test.YtmjbeplcabomdaaPs
import Derived.Test.YtmjbeplcabomdaaVi
import Derived.Test.YtmjbeplcabomdaaVa
import Derived.Test.YtmjbeplcabomdaaQk
namespace Go.Proofs.Ytmjbeplcabomdaa
open Go.RowKit
set_option linter.unusedVariables false
set_option linter.unusedSimpArgs false
theorem ad_okF {n d p q : Int} (o1 : okF n d = true) (o2 : okF p q = true) (h : adE n d p q = 0) : okF (adN n d p q) (adD n d p q) = true := by
  obtain ⟨d1, _⟩ := okF_out o1
  obtain ⟨d2, _⟩ := okF_out o2
  rw [adE, if_pos ⟨o1, o2⟩] at h
  rw [adN, adD, if_pos ⟨o1, o2⟩, if_pos ⟨o1, o2⟩]
  exact (mk_of _ _ (Int.mul_pos (by omega) (by omega)) h).1
theorem ref6_CommonT {a b c d : Int} (h : a ≤ d ∧ c ≤ b) (w : World) : Calls Try.prog 24 #[.agg #[.int .i64 a, .int .i64 b], .agg #[.int .i64 c, .int .i64 d]] w fun x w' => x = .returned (.bool true) ∧ Below w.heap.size w w' := by
  have x := ref6_Common a b c d w
  rw [decide_eq_true h] at x
  exact x
theorem okC_fr6 {n d : Int} (h : okF n d = true) : okC n d := by
  obtain ⟨h1, h2, h3, h4, _⟩ := okF_out h
  unfold okC; omega

set_option maxRecDepth 100000 in
set_option maxHeartbeats 6400000 in
theorem along6_out1 (s : ByteArray) (ra dec tk g h i j k l g' h' i' j' k' l' : Int) (AL : ∀ w : World, Calls Try.prog 16 #[] w fun x w' => x = .returned (.bool true) ∧ Below w.heap.size w w') (A1 : ∀ w : World, Calls Try.prog 22 #[.agg #[.string s, .int .i64 ra, .int .i64 dec], .int .i64 tk] w fun x w' => x = .returned (.bool false) ∧ Below w.heap.size w w') (w : World) :
    Calls Try.prog 7 #[.agg #[.string s, .int .i64 ra, .int .i64 dec], .int .i64 tk, .agg #[.int .i64 g, .int .i64 h, .int .i64 i, .int .i64 j, .int .i64 k, .int .i64 l], .agg #[.int .i64 (g'), .int .i64 (h'), .int .i64 (i'), .int .i64 (j'), .int .i64 (k'), .int .i64 (l')]] w fun x w' => x = .returned (.bool true) ∧ Below w.heap.size w w' := by
  have dAl := dAl; have dSt := dSt; have xC := ext_cell; have xF := ext_frozen; have xS := ext_set; have xN := ext_drewN; have xD := ext_drew; have xL := ext_lt; have xE := ext_ne; have xG := ext_nr; have xX := ext_ext; have xL1 := ext_lt1; have xL2 := ext_lt2; have xL3 := ext_lt3; have xM0 := ext_le0; have xM1 := ext_le1; have xM2 := ext_le2
  go_enter Try.func7, Try.ntmps7
  go_wp2_with fail
  with_reducible refine (A1 _).mono ?_
  rintro e v1 ⟨rfl, hb1⟩
  have zz1 := hb1.size
  try simp [ext_size] at zz1
  have hB1 : Below w.heap.size w v1 := Below.trans (by (repeat (first | with_reducible exact b0 _ | (with_reducible refine bext ?_ _ _) | (with_reducible refine below_drewN ?_ _) | (with_reducible refine Below.drew ?_) | (with_reducible refine bal ?_ _)))) (hb1.mono (by first | omega | (simp [ext_size]; try omega)))
  have zw1 := hB1.size
  clear hb1
  go_wp2_with fail
  with_reducible refine (AL _).mono ?_
  rintro e v2 ⟨rfl, hb2⟩
  have zz2 := hb2.size
  try simp [ext_size] at zz2
  have hB2 : Below w.heap.size w v2 := Below.trans (by (repeat (first | with_reducible exact hB1 | (with_reducible refine bext ?_ _ _) | (with_reducible refine below_drewN ?_ _) | (with_reducible refine Below.drew ?_) | (with_reducible refine bal ?_ _) | (with_reducible refine bset ?_ (by first | omega | (simp <;> omega)) _)))) (hb2.mono (by first | omega | (simp [ext_size]; try omega)))
  have zw2 := hB2.size
  clear hb2
  clear zz1 zw1 hB1
  go_wp2
  go_ret
  exact ⟨rfl, by (repeat (first | with_reducible exact hB2 | (with_reducible refine bext ?_ _ _) | (with_reducible refine below_drewN ?_ _) | (with_reducible refine Below.drew ?_) | (with_reducible refine bal ?_ _) | (with_reducible refine bset ?_ (by first | omega | (simp <;> omega)) _)))⟩

set_option maxRecDepth 100000 in
set_option maxHeartbeats 6400000 in
theorem along6_out2 (s : ByteArray) (ra dec tk g h i j k l g' h' i' j' k' l' E : Int) (hE : ¬ E = 0) (AL : ∀ w : World, Calls Try.prog 16 #[] w fun x w' => x = .returned (.bool true) ∧ Below w.heap.size w w') (A1 : ∀ w : World, Calls Try.prog 22 #[.agg #[.string s, .int .i64 ra, .int .i64 dec], .int .i64 tk] w fun x w' => x = .returned (.bool true) ∧ Below w.heap.size w w') (A2 : ∀ w : World, Calls Try.prog 25 #[.agg #[.int .i64 g, .int .i64 h, .int .i64 i, .int .i64 j, .int .i64 k, .int .i64 l], .agg #[.int .i64 (g'), .int .i64 (h'), .int .i64 (i'), .int .i64 (j'), .int .i64 (k'), .int .i64 (l')]] w fun x w' => x = .returned (.int .i64 E) ∧ Below w.heap.size w w') (w : World) :
    Calls Try.prog 7 #[.agg #[.string s, .int .i64 ra, .int .i64 dec], .int .i64 tk, .agg #[.int .i64 g, .int .i64 h, .int .i64 i, .int .i64 j, .int .i64 k, .int .i64 l], .agg #[.int .i64 (g'), .int .i64 (h'), .int .i64 (i'), .int .i64 (j'), .int .i64 (k'), .int .i64 (l')]] w fun x w' => x = .returned (.bool true) ∧ Below w.heap.size w w' := by
  have kE : (E != 0) = true := by simp [hE]
  have dAl := dAl; have dSt := dSt; have xC := ext_cell; have xF := ext_frozen; have xS := ext_set; have xN := ext_drewN; have xD := ext_drew; have xL := ext_lt; have xE := ext_ne; have xG := ext_nr; have xX := ext_ext; have xL1 := ext_lt1; have xL2 := ext_lt2; have xL3 := ext_lt3; have xM0 := ext_le0; have xM1 := ext_le1; have xM2 := ext_le2
  go_enter Try.func7, Try.ntmps7
  go_wp2_with fail
  with_reducible refine (A1 _).mono ?_
  rintro e v1 ⟨rfl, hb1⟩
  have zz1 := hb1.size
  try simp [ext_size] at zz1
  have cc1_0 : v1.cell? ⟨w.heap.size + 1, 0, none⟩ = some (.int .i64 g) := (hb1.cell (p := ⟨w.heap.size + 1, 0, none⟩) (by first | omega | (simp [ext_size]; try omega))).trans (by (simp (maxDischargeDepth := 8) [go_sem, World.cell?_alloc_past, ltk2, ltk3, ltk4, ltk5, ltk6, ltk7, ltk8, ltk9, *]))
  have cc1_1 : v1.cell? ⟨w.heap.size + 1, 1, none⟩ = some (.int .i64 h) := (hb1.cell (p := ⟨w.heap.size + 1, 1, none⟩) (by first | omega | (simp [ext_size]; try omega))).trans (by (simp (maxDischargeDepth := 8) [go_sem, World.cell?_alloc_past, ltk2, ltk3, ltk4, ltk5, ltk6, ltk7, ltk8, ltk9, *]))
  have cc1_2 : v1.cell? ⟨w.heap.size + 1, 2, none⟩ = some (.int .i64 i) := (hb1.cell (p := ⟨w.heap.size + 1, 2, none⟩) (by first | omega | (simp [ext_size]; try omega))).trans (by (simp (maxDischargeDepth := 8) [go_sem, World.cell?_alloc_past, ltk2, ltk3, ltk4, ltk5, ltk6, ltk7, ltk8, ltk9, *]))
  have cc1_3 : v1.cell? ⟨w.heap.size + 1, 3, none⟩ = some (.int .i64 j) := (hb1.cell (p := ⟨w.heap.size + 1, 3, none⟩) (by first | omega | (simp [ext_size]; try omega))).trans (by (simp (maxDischargeDepth := 8) [go_sem, World.cell?_alloc_past, ltk2, ltk3, ltk4, ltk5, ltk6, ltk7, ltk8, ltk9, *]))
  have cc1_4 : v1.cell? ⟨w.heap.size + 1, 4, none⟩ = some (.int .i64 k) := (hb1.cell (p := ⟨w.heap.size + 1, 4, none⟩) (by first | omega | (simp [ext_size]; try omega))).trans (by (simp (maxDischargeDepth := 8) [go_sem, World.cell?_alloc_past, ltk2, ltk3, ltk4, ltk5, ltk6, ltk7, ltk8, ltk9, *]))
  have cc1_5 : v1.cell? ⟨w.heap.size + 1, 5, none⟩ = some (.int .i64 l) := (hb1.cell (p := ⟨w.heap.size + 1, 5, none⟩) (by first | omega | (simp [ext_size]; try omega))).trans (by (simp (maxDischargeDepth := 8) [go_sem, World.cell?_alloc_past, ltk2, ltk3, ltk4, ltk5, ltk6, ltk7, ltk8, ltk9, *]))
  have cc1_6 : v1.cell? ⟨w.heap.size + 1 + 1, 0, none⟩ = some (.int .i64 g') := (hb1.cell (p := ⟨w.heap.size + 1 + 1, 0, none⟩) (by first | omega | (simp [ext_size]; try omega))).trans (by (simp (maxDischargeDepth := 8) [go_sem, World.cell?_alloc_past, ltk2, ltk3, ltk4, ltk5, ltk6, ltk7, ltk8, ltk9, *]))
  have cc1_7 : v1.cell? ⟨w.heap.size + 1 + 1, 1, none⟩ = some (.int .i64 h') := (hb1.cell (p := ⟨w.heap.size + 1 + 1, 1, none⟩) (by first | omega | (simp [ext_size]; try omega))).trans (by (simp (maxDischargeDepth := 8) [go_sem, World.cell?_alloc_past, ltk2, ltk3, ltk4, ltk5, ltk6, ltk7, ltk8, ltk9, *]))
  have cc1_8 : v1.cell? ⟨w.heap.size + 1 + 1, 2, none⟩ = some (.int .i64 i') := (hb1.cell (p := ⟨w.heap.size + 1 + 1, 2, none⟩) (by first | omega | (simp [ext_size]; try omega))).trans (by (simp (maxDischargeDepth := 8) [go_sem, World.cell?_alloc_past, ltk2, ltk3, ltk4, ltk5, ltk6, ltk7, ltk8, ltk9, *]))
  have cc1_9 : v1.cell? ⟨w.heap.size + 1 + 1, 3, none⟩ = some (.int .i64 j') := (hb1.cell (p := ⟨w.heap.size + 1 + 1, 3, none⟩) (by first | omega | (simp [ext_size]; try omega))).trans (by (simp (maxDischargeDepth := 8) [go_sem, World.cell?_alloc_past, ltk2, ltk3, ltk4, ltk5, ltk6, ltk7, ltk8, ltk9, *]))
  have cc1_10 : v1.cell? ⟨w.heap.size + 1 + 1, 4, none⟩ = some (.int .i64 k') := (hb1.cell (p := ⟨w.heap.size + 1 + 1, 4, none⟩) (by first | omega | (simp [ext_size]; try omega))).trans (by (simp (maxDischargeDepth := 8) [go_sem, World.cell?_alloc_past, ltk2, ltk3, ltk4, ltk5, ltk6, ltk7, ltk8, ltk9, *]))
  have cc1_11 : v1.cell? ⟨w.heap.size + 1 + 1, 5, none⟩ = some (.int .i64 l') := (hb1.cell (p := ⟨w.heap.size + 1 + 1, 5, none⟩) (by first | omega | (simp [ext_size]; try omega))).trans (by (simp (maxDischargeDepth := 8) [go_sem, World.cell?_alloc_past, ltk2, ltk3, ltk4, ltk5, ltk6, ltk7, ltk8, ltk9, *]))
  have zl1_0 : w.heap.size + 1 < v1.heap.size := by omega
  have zl1_1 : w.heap.size + 1 + 1 < v1.heap.size := by omega
  have hB1 : Below w.heap.size w v1 := Below.trans (by (repeat (first | with_reducible exact b0 _ | (with_reducible refine bext ?_ _ _) | (with_reducible refine below_drewN ?_ _) | (with_reducible refine Below.drew ?_) | (with_reducible refine bal ?_ _)))) (hb1.mono (by first | omega | (simp [ext_size]; try omega)))
  have zw1 := hB1.size
  clear hb1
  go_wp2_with fail
  with_reducible refine (A2 _).mono ?_
  rintro e v2 ⟨rfl, hb2⟩
  have zz2 := hb2.size
  try simp [ext_size] at zz2
  have cc2_0 : v2.cell? ⟨w.heap.size + 1, 0, none⟩ = some (.int .i64 g) := (hb2.cell (p := ⟨w.heap.size + 1, 0, none⟩) (by first | omega | (simp [ext_size]; try omega))).trans (by (simp (maxDischargeDepth := 8) [go_sem, World.cell?_alloc_past, ltk2, ltk3, ltk4, ltk5, ltk6, ltk7, ltk8, ltk9, *]))
  have cc2_1 : v2.cell? ⟨w.heap.size + 1, 1, none⟩ = some (.int .i64 h) := (hb2.cell (p := ⟨w.heap.size + 1, 1, none⟩) (by first | omega | (simp [ext_size]; try omega))).trans (by (simp (maxDischargeDepth := 8) [go_sem, World.cell?_alloc_past, ltk2, ltk3, ltk4, ltk5, ltk6, ltk7, ltk8, ltk9, *]))
  have cc2_2 : v2.cell? ⟨w.heap.size + 1, 2, none⟩ = some (.int .i64 i) := (hb2.cell (p := ⟨w.heap.size + 1, 2, none⟩) (by first | omega | (simp [ext_size]; try omega))).trans (by (simp (maxDischargeDepth := 8) [go_sem, World.cell?_alloc_past, ltk2, ltk3, ltk4, ltk5, ltk6, ltk7, ltk8, ltk9, *]))
  have cc2_3 : v2.cell? ⟨w.heap.size + 1, 3, none⟩ = some (.int .i64 j) := (hb2.cell (p := ⟨w.heap.size + 1, 3, none⟩) (by first | omega | (simp [ext_size]; try omega))).trans (by (simp (maxDischargeDepth := 8) [go_sem, World.cell?_alloc_past, ltk2, ltk3, ltk4, ltk5, ltk6, ltk7, ltk8, ltk9, *]))
  have cc2_4 : v2.cell? ⟨w.heap.size + 1, 4, none⟩ = some (.int .i64 k) := (hb2.cell (p := ⟨w.heap.size + 1, 4, none⟩) (by first | omega | (simp [ext_size]; try omega))).trans (by (simp (maxDischargeDepth := 8) [go_sem, World.cell?_alloc_past, ltk2, ltk3, ltk4, ltk5, ltk6, ltk7, ltk8, ltk9, *]))
  have cc2_5 : v2.cell? ⟨w.heap.size + 1, 5, none⟩ = some (.int .i64 l) := (hb2.cell (p := ⟨w.heap.size + 1, 5, none⟩) (by first | omega | (simp [ext_size]; try omega))).trans (by (simp (maxDischargeDepth := 8) [go_sem, World.cell?_alloc_past, ltk2, ltk3, ltk4, ltk5, ltk6, ltk7, ltk8, ltk9, *]))
  have cc2_6 : v2.cell? ⟨w.heap.size + 1 + 1, 0, none⟩ = some (.int .i64 g') := (hb2.cell (p := ⟨w.heap.size + 1 + 1, 0, none⟩) (by first | omega | (simp [ext_size]; try omega))).trans (by (simp (maxDischargeDepth := 8) [go_sem, World.cell?_alloc_past, ltk2, ltk3, ltk4, ltk5, ltk6, ltk7, ltk8, ltk9, *]))
  have cc2_7 : v2.cell? ⟨w.heap.size + 1 + 1, 1, none⟩ = some (.int .i64 h') := (hb2.cell (p := ⟨w.heap.size + 1 + 1, 1, none⟩) (by first | omega | (simp [ext_size]; try omega))).trans (by (simp (maxDischargeDepth := 8) [go_sem, World.cell?_alloc_past, ltk2, ltk3, ltk4, ltk5, ltk6, ltk7, ltk8, ltk9, *]))
  have cc2_8 : v2.cell? ⟨w.heap.size + 1 + 1, 2, none⟩ = some (.int .i64 i') := (hb2.cell (p := ⟨w.heap.size + 1 + 1, 2, none⟩) (by first | omega | (simp [ext_size]; try omega))).trans (by (simp (maxDischargeDepth := 8) [go_sem, World.cell?_alloc_past, ltk2, ltk3, ltk4, ltk5, ltk6, ltk7, ltk8, ltk9, *]))
  have cc2_9 : v2.cell? ⟨w.heap.size + 1 + 1, 3, none⟩ = some (.int .i64 j') := (hb2.cell (p := ⟨w.heap.size + 1 + 1, 3, none⟩) (by first | omega | (simp [ext_size]; try omega))).trans (by (simp (maxDischargeDepth := 8) [go_sem, World.cell?_alloc_past, ltk2, ltk3, ltk4, ltk5, ltk6, ltk7, ltk8, ltk9, *]))
  have cc2_10 : v2.cell? ⟨w.heap.size + 1 + 1, 4, none⟩ = some (.int .i64 k') := (hb2.cell (p := ⟨w.heap.size + 1 + 1, 4, none⟩) (by first | omega | (simp [ext_size]; try omega))).trans (by (simp (maxDischargeDepth := 8) [go_sem, World.cell?_alloc_past, ltk2, ltk3, ltk4, ltk5, ltk6, ltk7, ltk8, ltk9, *]))
  have cc2_11 : v2.cell? ⟨w.heap.size + 1 + 1, 5, none⟩ = some (.int .i64 l') := (hb2.cell (p := ⟨w.heap.size + 1 + 1, 5, none⟩) (by first | omega | (simp [ext_size]; try omega))).trans (by (simp (maxDischargeDepth := 8) [go_sem, World.cell?_alloc_past, ltk2, ltk3, ltk4, ltk5, ltk6, ltk7, ltk8, ltk9, *]))
  have zl2_0 : w.heap.size + 1 < v2.heap.size := by omega
  have zl2_1 : w.heap.size + 1 + 1 < v2.heap.size := by omega
  have hB2 : Below w.heap.size w v2 := Below.trans (by (repeat (first | with_reducible exact hB1 | (with_reducible refine bext ?_ _ _) | (with_reducible refine below_drewN ?_ _) | (with_reducible refine Below.drew ?_) | (with_reducible refine bal ?_ _) | (with_reducible refine bset ?_ (by first | omega | (simp <;> omega)) _)))) (hb2.mono (by first | omega | (simp [ext_size]; try omega)))
  have zw2 := hB2.size
  clear hb2
  clear cc1_0 cc1_1 cc1_2 cc1_3 cc1_4 cc1_5 cc1_6 cc1_7 cc1_8 cc1_9 cc1_10 cc1_11 zl1_0 zl1_1 zz1 zw1 hB1
  go_wp2_with fail
  with_reducible refine (AL _).mono ?_
  rintro e v3 ⟨rfl, hb3⟩
  have zz3 := hb3.size
  try simp [ext_size] at zz3
  have hB3 : Below w.heap.size w v3 := Below.trans (by (repeat (first | with_reducible exact hB2 | (with_reducible refine bext ?_ _ _) | (with_reducible refine below_drewN ?_ _) | (with_reducible refine Below.drew ?_) | (with_reducible refine bal ?_ _) | (with_reducible refine bset ?_ (by first | omega | (simp <;> omega)) _)))) (hb3.mono (by first | omega | (simp [ext_size]; try omega)))
  have zw3 := hB3.size
  clear hb3
  clear cc2_0 cc2_1 cc2_2 cc2_3 cc2_4 cc2_5 cc2_6 cc2_7 cc2_8 cc2_9 cc2_10 cc2_11 zl2_0 zl2_1 zz2 zw2 hB2
  go_wp2
  go_ret
  exact ⟨rfl, by (repeat (first | with_reducible exact hB3 | (with_reducible refine bext ?_ _ _) | (with_reducible refine below_drewN ?_ _) | (with_reducible refine Below.drew ?_) | (with_reducible refine bal ?_ _) | (with_reducible refine bset ?_ (by first | omega | (simp <;> omega)) _)))⟩

set_option maxRecDepth 100000 in
set_option maxHeartbeats 12800000 in
theorem along6_walk (s : ByteArray) (ra dec tk g h i j k l g' h' i' j' k' l' x0 x1 x2 x3 x4 x5 u0 u1 u2 u3 u4 u5 p0 p1 q0 q1 r0 r1 t0 t1 G P Q J K : Int) (AL : ∀ w : World, Calls Try.prog 16 #[] w fun x w' => x = .returned (.bool true) ∧ Below w.heap.size w w') (A1 : ∀ w : World, Calls Try.prog 22 #[.agg #[.string s, .int .i64 ra, .int .i64 dec], .int .i64 tk] w fun x w' => x = .returned (.bool true) ∧ Below w.heap.size w w') (A2 : ∀ w : World, Calls Try.prog 25 #[.agg #[.int .i64 g, .int .i64 h, .int .i64 i, .int .i64 j, .int .i64 k, .int .i64 l], .agg #[.int .i64 (g'), .int .i64 (h'), .int .i64 (i'), .int .i64 (j'), .int .i64 (k'), .int .i64 (l')]] w fun x w' => x = .returned (.int .i64 0) ∧ Below w.heap.size w w') (A3 : ∀ w : World, Calls Try.prog 10 #[.agg #[.string s, .int .i64 ra, .int .i64 dec], .int .i64 tk] w fun x w' => x = .returned (.tuple #[.agg #[.int .i64 x0, .int .i64 x1, .int .i64 x2, .int .i64 x3, .int .i64 x4, .int .i64 x5], .int .i64 0]) ∧ Below w.heap.size w w') (A4 : ∀ w : World, Calls Try.prog 13 #[.agg #[.int .i64 x0, .int .i64 x1, .int .i64 x2, .int .i64 x3, .int .i64 x4, .int .i64 x5], .agg #[.int .i64 0, .int .i64 1, .int .i64 0, .int .i64 1, .int .i64 1, .int .i64 1]] w fun x w' => x = .returned (.tuple #[.agg #[.int .i64 x4, .int .i64 x5], .int .i64 0]) ∧ Below w.heap.size w w') (A5 : ∀ w : World, Calls Try.prog 26 #[.agg #[.int .i64 g, .int .i64 h, .int .i64 i, .int .i64 j, .int .i64 k, .int .i64 l], .agg #[.int .i64 (g'), .int .i64 (h'), .int .i64 (i'), .int .i64 (j'), .int .i64 (k'), .int .i64 (l')]] w fun x w' => x = .returned (.tuple #[.agg #[.int .i64 u0, .int .i64 u1, .int .i64 u2, .int .i64 u3, .int .i64 u4, .int .i64 u5], .int .i64 G]) ∧ Below w.heap.size w w') (A6 : ∀ w : World, Calls Try.prog 13 #[.agg #[.int .i64 x0, .int .i64 x1, .int .i64 x2, .int .i64 x3, .int .i64 x4, .int .i64 x5], .agg #[.int .i64 g, .int .i64 h, .int .i64 i, .int .i64 j, .int .i64 k, .int .i64 l]] w fun x w' => x = .returned (.tuple #[.agg #[.int .i64 p0, .int .i64 p1], .int .i64 P]) ∧ Below w.heap.size w w') (A7 : ∀ w : World, Calls Try.prog 13 #[.agg #[.int .i64 x0, .int .i64 x1, .int .i64 x2, .int .i64 x3, .int .i64 x4, .int .i64 x5], .agg #[.int .i64 (g'), .int .i64 (h'), .int .i64 (i'), .int .i64 (j'), .int .i64 (k'), .int .i64 (l')]] w fun x w' => x = .returned (.tuple #[.agg #[.int .i64 q0, .int .i64 q1], .int .i64 Q]) ∧ Below w.heap.size w w') (A8 : ∀ w : World, Calls Try.prog 27 #[.agg #[.int .i64 p0, .int .i64 p1], .agg #[.int .i64 q0, .int .i64 q1]] w fun x w' => x = .returned (.tuple #[.agg #[.int .i64 r0, .int .i64 r1], .int .i64 J]) ∧ Below w.heap.size w w') (A9 : ∀ w : World, Calls Try.prog 13 #[.agg #[.int .i64 x0, .int .i64 x1, .int .i64 x2, .int .i64 x3, .int .i64 x4, .int .i64 x5], .agg #[.int .i64 u0, .int .i64 u1, .int .i64 u2, .int .i64 u3, .int .i64 u4, .int .i64 u5]] w fun x w' => x = .returned (.tuple #[.agg #[.int .i64 t0, .int .i64 t1], .int .i64 K]) ∧ Below w.heap.size w w') (CM : G = 0 → P = 0 → Q = 0 → J = 0 → K = 0 → ∀ w : World, Calls Try.prog 24 #[.agg #[.int .i64 r0, .int .i64 r1], .agg #[.int .i64 t0, .int .i64 t1]] w fun x w' => x = .returned (.bool true) ∧ Below w.heap.size w w') (w : World) :
    Calls Try.prog 7 #[.agg #[.string s, .int .i64 ra, .int .i64 dec], .int .i64 tk, .agg #[.int .i64 g, .int .i64 h, .int .i64 i, .int .i64 j, .int .i64 k, .int .i64 l], .agg #[.int .i64 (g'), .int .i64 (h'), .int .i64 (i'), .int .i64 (j'), .int .i64 (k'), .int .i64 (l')]] w fun x w' => x = .returned (.bool true) ∧ Below w.heap.size w w' := by
  have HCM := Lib.hid CM
  clear CM
  have dAl := dAl; have dSt := dSt; have xC := ext_cell; have xF := ext_frozen; have xS := ext_set; have xN := ext_drewN; have xD := ext_drew; have xL := ext_lt; have xE := ext_ne; have xG := ext_nr; have xX := ext_ext; have xL1 := ext_lt1; have xL2 := ext_lt2; have xL3 := ext_lt3; have xM0 := ext_le0; have xM1 := ext_le1; have xM2 := ext_le2
  go_enter Try.func7, Try.ntmps7
  go_wp2_with fail
  with_reducible refine (A1 _).mono ?_
  rintro e v1 ⟨rfl, hb1⟩
  have zz1 := hb1.size
  try simp [ext_size] at zz1
  have cc1_0 : v1.cell? ⟨w.heap.size, 0, none⟩ = some (.string s) := (hb1.cell (p := ⟨w.heap.size, 0, none⟩) (by first | omega | (simp [ext_size]; try omega))).trans (by (simp (maxDischargeDepth := 8) [go_sem, World.cell?_alloc_past, ltk2, ltk3, ltk4, ltk5, ltk6, ltk7, ltk8, ltk9, *]))
  have cc1_1 : v1.cell? ⟨w.heap.size, 1, none⟩ = some (.int .i64 ra) := (hb1.cell (p := ⟨w.heap.size, 1, none⟩) (by first | omega | (simp [ext_size]; try omega))).trans (by (simp (maxDischargeDepth := 8) [go_sem, World.cell?_alloc_past, ltk2, ltk3, ltk4, ltk5, ltk6, ltk7, ltk8, ltk9, *]))
  have cc1_2 : v1.cell? ⟨w.heap.size, 2, none⟩ = some (.int .i64 dec) := (hb1.cell (p := ⟨w.heap.size, 2, none⟩) (by first | omega | (simp [ext_size]; try omega))).trans (by (simp (maxDischargeDepth := 8) [go_sem, World.cell?_alloc_past, ltk2, ltk3, ltk4, ltk5, ltk6, ltk7, ltk8, ltk9, *]))
  have cc1_3 : v1.cell? ⟨w.heap.size + 1, 0, none⟩ = some (.int .i64 g) := (hb1.cell (p := ⟨w.heap.size + 1, 0, none⟩) (by first | omega | (simp [ext_size]; try omega))).trans (by (simp (maxDischargeDepth := 8) [go_sem, World.cell?_alloc_past, ltk2, ltk3, ltk4, ltk5, ltk6, ltk7, ltk8, ltk9, *]))
  have cc1_4 : v1.cell? ⟨w.heap.size + 1, 1, none⟩ = some (.int .i64 h) := (hb1.cell (p := ⟨w.heap.size + 1, 1, none⟩) (by first | omega | (simp [ext_size]; try omega))).trans (by (simp (maxDischargeDepth := 8) [go_sem, World.cell?_alloc_past, ltk2, ltk3, ltk4, ltk5, ltk6, ltk7, ltk8, ltk9, *]))
  have cc1_5 : v1.cell? ⟨w.heap.size + 1, 2, none⟩ = some (.int .i64 i) := (hb1.cell (p := ⟨w.heap.size + 1, 2, none⟩) (by first | omega | (simp [ext_size]; try omega))).trans (by (simp (maxDischargeDepth := 8) [go_sem, World.cell?_alloc_past, ltk2, ltk3, ltk4, ltk5, ltk6, ltk7, ltk8, ltk9, *]))
  have cc1_6 : v1.cell? ⟨w.heap.size + 1, 3, none⟩ = some (.int .i64 j) := (hb1.cell (p := ⟨w.heap.size + 1, 3, none⟩) (by first | omega | (simp [ext_size]; try omega))).trans (by (simp (maxDischargeDepth := 8) [go_sem, World.cell?_alloc_past, ltk2, ltk3, ltk4, ltk5, ltk6, ltk7, ltk8, ltk9, *]))
  have cc1_7 : v1.cell? ⟨w.heap.size + 1, 4, none⟩ = some (.int .i64 k) := (hb1.cell (p := ⟨w.heap.size + 1, 4, none⟩) (by first | omega | (simp [ext_size]; try omega))).trans (by (simp (maxDischargeDepth := 8) [go_sem, World.cell?_alloc_past, ltk2, ltk3, ltk4, ltk5, ltk6, ltk7, ltk8, ltk9, *]))
  have cc1_8 : v1.cell? ⟨w.heap.size + 1, 5, none⟩ = some (.int .i64 l) := (hb1.cell (p := ⟨w.heap.size + 1, 5, none⟩) (by first | omega | (simp [ext_size]; try omega))).trans (by (simp (maxDischargeDepth := 8) [go_sem, World.cell?_alloc_past, ltk2, ltk3, ltk4, ltk5, ltk6, ltk7, ltk8, ltk9, *]))
  have cc1_9 : v1.cell? ⟨w.heap.size + 1 + 1, 0, none⟩ = some (.int .i64 g') := (hb1.cell (p := ⟨w.heap.size + 1 + 1, 0, none⟩) (by first | omega | (simp [ext_size]; try omega))).trans (by (simp (maxDischargeDepth := 8) [go_sem, World.cell?_alloc_past, ltk2, ltk3, ltk4, ltk5, ltk6, ltk7, ltk8, ltk9, *]))
  have cc1_10 : v1.cell? ⟨w.heap.size + 1 + 1, 1, none⟩ = some (.int .i64 h') := (hb1.cell (p := ⟨w.heap.size + 1 + 1, 1, none⟩) (by first | omega | (simp [ext_size]; try omega))).trans (by (simp (maxDischargeDepth := 8) [go_sem, World.cell?_alloc_past, ltk2, ltk3, ltk4, ltk5, ltk6, ltk7, ltk8, ltk9, *]))
  have cc1_11 : v1.cell? ⟨w.heap.size + 1 + 1, 2, none⟩ = some (.int .i64 i') := (hb1.cell (p := ⟨w.heap.size + 1 + 1, 2, none⟩) (by first | omega | (simp [ext_size]; try omega))).trans (by (simp (maxDischargeDepth := 8) [go_sem, World.cell?_alloc_past, ltk2, ltk3, ltk4, ltk5, ltk6, ltk7, ltk8, ltk9, *]))
  have cc1_12 : v1.cell? ⟨w.heap.size + 1 + 1, 3, none⟩ = some (.int .i64 j') := (hb1.cell (p := ⟨w.heap.size + 1 + 1, 3, none⟩) (by first | omega | (simp [ext_size]; try omega))).trans (by (simp (maxDischargeDepth := 8) [go_sem, World.cell?_alloc_past, ltk2, ltk3, ltk4, ltk5, ltk6, ltk7, ltk8, ltk9, *]))
  have cc1_13 : v1.cell? ⟨w.heap.size + 1 + 1, 4, none⟩ = some (.int .i64 k') := (hb1.cell (p := ⟨w.heap.size + 1 + 1, 4, none⟩) (by first | omega | (simp [ext_size]; try omega))).trans (by (simp (maxDischargeDepth := 8) [go_sem, World.cell?_alloc_past, ltk2, ltk3, ltk4, ltk5, ltk6, ltk7, ltk8, ltk9, *]))
  have cc1_14 : v1.cell? ⟨w.heap.size + 1 + 1, 5, none⟩ = some (.int .i64 l') := (hb1.cell (p := ⟨w.heap.size + 1 + 1, 5, none⟩) (by first | omega | (simp [ext_size]; try omega))).trans (by (simp (maxDischargeDepth := 8) [go_sem, World.cell?_alloc_past, ltk2, ltk3, ltk4, ltk5, ltk6, ltk7, ltk8, ltk9, *]))
  have zl1_0 : w.heap.size < v1.heap.size := by omega
  have zl1_1 : w.heap.size + 1 < v1.heap.size := by omega
  have zl1_2 : w.heap.size + 1 + 1 < v1.heap.size := by omega
  have hB1 : Below w.heap.size w v1 := Below.trans (by (repeat (first | with_reducible exact b0 _ | (with_reducible refine bext ?_ _ _) | (with_reducible refine below_drewN ?_ _) | (with_reducible refine Below.drew ?_) | (with_reducible refine bal ?_ _)))) (hb1.mono (by first | omega | (simp [ext_size]; try omega)))
  have zw1 := hB1.size
  clear hb1
  go_wp2_with fail
  with_reducible refine (A2 _).mono ?_
  rintro e v2 ⟨rfl, hb2⟩
  have zz2 := hb2.size
  try simp [ext_size] at zz2
  have cc2_0 : v2.cell? ⟨w.heap.size, 0, none⟩ = some (.string s) := (hb2.cell (p := ⟨w.heap.size, 0, none⟩) (by first | omega | (simp [ext_size]; try omega))).trans (by (simp (maxDischargeDepth := 8) [go_sem, World.cell?_alloc_past, ltk2, ltk3, ltk4, ltk5, ltk6, ltk7, ltk8, ltk9, *]))
  have cc2_1 : v2.cell? ⟨w.heap.size, 1, none⟩ = some (.int .i64 ra) := (hb2.cell (p := ⟨w.heap.size, 1, none⟩) (by first | omega | (simp [ext_size]; try omega))).trans (by (simp (maxDischargeDepth := 8) [go_sem, World.cell?_alloc_past, ltk2, ltk3, ltk4, ltk5, ltk6, ltk7, ltk8, ltk9, *]))
  have cc2_2 : v2.cell? ⟨w.heap.size, 2, none⟩ = some (.int .i64 dec) := (hb2.cell (p := ⟨w.heap.size, 2, none⟩) (by first | omega | (simp [ext_size]; try omega))).trans (by (simp (maxDischargeDepth := 8) [go_sem, World.cell?_alloc_past, ltk2, ltk3, ltk4, ltk5, ltk6, ltk7, ltk8, ltk9, *]))
  have cc2_3 : v2.cell? ⟨w.heap.size + 1, 0, none⟩ = some (.int .i64 g) := (hb2.cell (p := ⟨w.heap.size + 1, 0, none⟩) (by first | omega | (simp [ext_size]; try omega))).trans (by (simp (maxDischargeDepth := 8) [go_sem, World.cell?_alloc_past, ltk2, ltk3, ltk4, ltk5, ltk6, ltk7, ltk8, ltk9, *]))
  have cc2_4 : v2.cell? ⟨w.heap.size + 1, 1, none⟩ = some (.int .i64 h) := (hb2.cell (p := ⟨w.heap.size + 1, 1, none⟩) (by first | omega | (simp [ext_size]; try omega))).trans (by (simp (maxDischargeDepth := 8) [go_sem, World.cell?_alloc_past, ltk2, ltk3, ltk4, ltk5, ltk6, ltk7, ltk8, ltk9, *]))
  have cc2_5 : v2.cell? ⟨w.heap.size + 1, 2, none⟩ = some (.int .i64 i) := (hb2.cell (p := ⟨w.heap.size + 1, 2, none⟩) (by first | omega | (simp [ext_size]; try omega))).trans (by (simp (maxDischargeDepth := 8) [go_sem, World.cell?_alloc_past, ltk2, ltk3, ltk4, ltk5, ltk6, ltk7, ltk8, ltk9, *]))
  have cc2_6 : v2.cell? ⟨w.heap.size + 1, 3, none⟩ = some (.int .i64 j) := (hb2.cell (p := ⟨w.heap.size + 1, 3, none⟩) (by first | omega | (simp [ext_size]; try omega))).trans (by (simp (maxDischargeDepth := 8) [go_sem, World.cell?_alloc_past, ltk2, ltk3, ltk4, ltk5, ltk6, ltk7, ltk8, ltk9, *]))
  have cc2_7 : v2.cell? ⟨w.heap.size + 1, 4, none⟩ = some (.int .i64 k) := (hb2.cell (p := ⟨w.heap.size + 1, 4, none⟩) (by first | omega | (simp [ext_size]; try omega))).trans (by (simp (maxDischargeDepth := 8) [go_sem, World.cell?_alloc_past, ltk2, ltk3, ltk4, ltk5, ltk6, ltk7, ltk8, ltk9, *]))
  have cc2_8 : v2.cell? ⟨w.heap.size + 1, 5, none⟩ = some (.int .i64 l) := (hb2.cell (p := ⟨w.heap.size + 1, 5, none⟩) (by first | omega | (simp [ext_size]; try omega))).trans (by (simp (maxDischargeDepth := 8) [go_sem, World.cell?_alloc_past, ltk2, ltk3, ltk4, ltk5, ltk6, ltk7, ltk8, ltk9, *]))
  have cc2_9 : v2.cell? ⟨w.heap.size + 1 + 1, 0, none⟩ = some (.int .i64 g') := (hb2.cell (p := ⟨w.heap.size + 1 + 1, 0, none⟩) (by first | omega | (simp [ext_size]; try omega))).trans (by (simp (maxDischargeDepth := 8) [go_sem, World.cell?_alloc_past, ltk2, ltk3, ltk4, ltk5, ltk6, ltk7, ltk8, ltk9, *]))
  have cc2_10 : v2.cell? ⟨w.heap.size + 1 + 1, 1, none⟩ = some (.int .i64 h') := (hb2.cell (p := ⟨w.heap.size + 1 + 1, 1, none⟩) (by first | omega | (simp [ext_size]; try omega))).trans (by (simp (maxDischargeDepth := 8) [go_sem, World.cell?_alloc_past, ltk2, ltk3, ltk4, ltk5, ltk6, ltk7, ltk8, ltk9, *]))
  have cc2_11 : v2.cell? ⟨w.heap.size + 1 + 1, 2, none⟩ = some (.int .i64 i') := (hb2.cell (p := ⟨w.heap.size + 1 + 1, 2, none⟩) (by first | omega | (simp [ext_size]; try omega))).trans (by (simp (maxDischargeDepth := 8) [go_sem, World.cell?_alloc_past, ltk2, ltk3, ltk4, ltk5, ltk6, ltk7, ltk8, ltk9, *]))
  have cc2_12 : v2.cell? ⟨w.heap.size + 1 + 1, 3, none⟩ = some (.int .i64 j') := (hb2.cell (p := ⟨w.heap.size + 1 + 1, 3, none⟩) (by first | omega | (simp [ext_size]; try omega))).trans (by (simp (maxDischargeDepth := 8) [go_sem, World.cell?_alloc_past, ltk2, ltk3, ltk4, ltk5, ltk6, ltk7, ltk8, ltk9, *]))
  have cc2_13 : v2.cell? ⟨w.heap.size + 1 + 1, 4, none⟩ = some (.int .i64 k') := (hb2.cell (p := ⟨w.heap.size + 1 + 1, 4, none⟩) (by first | omega | (simp [ext_size]; try omega))).trans (by (simp (maxDischargeDepth := 8) [go_sem, World.cell?_alloc_past, ltk2, ltk3, ltk4, ltk5, ltk6, ltk7, ltk8, ltk9, *]))
  have cc2_14 : v2.cell? ⟨w.heap.size + 1 + 1, 5, none⟩ = some (.int .i64 l') := (hb2.cell (p := ⟨w.heap.size + 1 + 1, 5, none⟩) (by first | omega | (simp [ext_size]; try omega))).trans (by (simp (maxDischargeDepth := 8) [go_sem, World.cell?_alloc_past, ltk2, ltk3, ltk4, ltk5, ltk6, ltk7, ltk8, ltk9, *]))
  have zl2_0 : w.heap.size < v2.heap.size := by omega
  have zl2_1 : w.heap.size + 1 < v2.heap.size := by omega
  have zl2_2 : w.heap.size + 1 + 1 < v2.heap.size := by omega
  have hB2 : Below w.heap.size w v2 := Below.trans (by (repeat (first | with_reducible exact hB1 | (with_reducible refine bext ?_ _ _) | (with_reducible refine below_drewN ?_ _) | (with_reducible refine Below.drew ?_) | (with_reducible refine bal ?_ _) | (with_reducible refine bset ?_ (by first | omega | (simp <;> omega)) _)))) (hb2.mono (by first | omega | (simp [ext_size]; try omega)))
  have zw2 := hB2.size
  clear hb2
  clear cc1_0 cc1_1 cc1_2 cc1_3 cc1_4 cc1_5 cc1_6 cc1_7 cc1_8 cc1_9 cc1_10 cc1_11 cc1_12 cc1_13 cc1_14 zl1_0 zl1_1 zl1_2 zz1 zw1 hB1
  go_wp2_with fail
  with_reducible refine (A3 _).mono ?_
  rintro e v3 ⟨rfl, hb3⟩
  have zz3 := hb3.size
  try simp [ext_size] at zz3
  have cc3_0 : v3.cell? ⟨w.heap.size, 0, none⟩ = some (.string s) := (hb3.cell (p := ⟨w.heap.size, 0, none⟩) (by first | omega | (simp [ext_size]; try omega))).trans (by (simp (maxDischargeDepth := 8) [go_sem, World.cell?_alloc_past, ltk2, ltk3, ltk4, ltk5, ltk6, ltk7, ltk8, ltk9, *]))
  have cc3_1 : v3.cell? ⟨w.heap.size, 1, none⟩ = some (.int .i64 ra) := (hb3.cell (p := ⟨w.heap.size, 1, none⟩) (by first | omega | (simp [ext_size]; try omega))).trans (by (simp (maxDischargeDepth := 8) [go_sem, World.cell?_alloc_past, ltk2, ltk3, ltk4, ltk5, ltk6, ltk7, ltk8, ltk9, *]))
  have cc3_2 : v3.cell? ⟨w.heap.size, 2, none⟩ = some (.int .i64 dec) := (hb3.cell (p := ⟨w.heap.size, 2, none⟩) (by first | omega | (simp [ext_size]; try omega))).trans (by (simp (maxDischargeDepth := 8) [go_sem, World.cell?_alloc_past, ltk2, ltk3, ltk4, ltk5, ltk6, ltk7, ltk8, ltk9, *]))
  have cc3_3 : v3.cell? ⟨w.heap.size + 1, 0, none⟩ = some (.int .i64 g) := (hb3.cell (p := ⟨w.heap.size + 1, 0, none⟩) (by first | omega | (simp [ext_size]; try omega))).trans (by (simp (maxDischargeDepth := 8) [go_sem, World.cell?_alloc_past, ltk2, ltk3, ltk4, ltk5, ltk6, ltk7, ltk8, ltk9, *]))
  have cc3_4 : v3.cell? ⟨w.heap.size + 1, 1, none⟩ = some (.int .i64 h) := (hb3.cell (p := ⟨w.heap.size + 1, 1, none⟩) (by first | omega | (simp [ext_size]; try omega))).trans (by (simp (maxDischargeDepth := 8) [go_sem, World.cell?_alloc_past, ltk2, ltk3, ltk4, ltk5, ltk6, ltk7, ltk8, ltk9, *]))
  have cc3_5 : v3.cell? ⟨w.heap.size + 1, 2, none⟩ = some (.int .i64 i) := (hb3.cell (p := ⟨w.heap.size + 1, 2, none⟩) (by first | omega | (simp [ext_size]; try omega))).trans (by (simp (maxDischargeDepth := 8) [go_sem, World.cell?_alloc_past, ltk2, ltk3, ltk4, ltk5, ltk6, ltk7, ltk8, ltk9, *]))
  have cc3_6 : v3.cell? ⟨w.heap.size + 1, 3, none⟩ = some (.int .i64 j) := (hb3.cell (p := ⟨w.heap.size + 1, 3, none⟩) (by first | omega | (simp [ext_size]; try omega))).trans (by (simp (maxDischargeDepth := 8) [go_sem, World.cell?_alloc_past, ltk2, ltk3, ltk4, ltk5, ltk6, ltk7, ltk8, ltk9, *]))
  have cc3_7 : v3.cell? ⟨w.heap.size + 1, 4, none⟩ = some (.int .i64 k) := (hb3.cell (p := ⟨w.heap.size + 1, 4, none⟩) (by first | omega | (simp [ext_size]; try omega))).trans (by (simp (maxDischargeDepth := 8) [go_sem, World.cell?_alloc_past, ltk2, ltk3, ltk4, ltk5, ltk6, ltk7, ltk8, ltk9, *]))
  have cc3_8 : v3.cell? ⟨w.heap.size + 1, 5, none⟩ = some (.int .i64 l) := (hb3.cell (p := ⟨w.heap.size + 1, 5, none⟩) (by first | omega | (simp [ext_size]; try omega))).trans (by (simp (maxDischargeDepth := 8) [go_sem, World.cell?_alloc_past, ltk2, ltk3, ltk4, ltk5, ltk6, ltk7, ltk8, ltk9, *]))
  have cc3_9 : v3.cell? ⟨w.heap.size + 1 + 1, 0, none⟩ = some (.int .i64 g') := (hb3.cell (p := ⟨w.heap.size + 1 + 1, 0, none⟩) (by first | omega | (simp [ext_size]; try omega))).trans (by (simp (maxDischargeDepth := 8) [go_sem, World.cell?_alloc_past, ltk2, ltk3, ltk4, ltk5, ltk6, ltk7, ltk8, ltk9, *]))
  have cc3_10 : v3.cell? ⟨w.heap.size + 1 + 1, 1, none⟩ = some (.int .i64 h') := (hb3.cell (p := ⟨w.heap.size + 1 + 1, 1, none⟩) (by first | omega | (simp [ext_size]; try omega))).trans (by (simp (maxDischargeDepth := 8) [go_sem, World.cell?_alloc_past, ltk2, ltk3, ltk4, ltk5, ltk6, ltk7, ltk8, ltk9, *]))
  have cc3_11 : v3.cell? ⟨w.heap.size + 1 + 1, 2, none⟩ = some (.int .i64 i') := (hb3.cell (p := ⟨w.heap.size + 1 + 1, 2, none⟩) (by first | omega | (simp [ext_size]; try omega))).trans (by (simp (maxDischargeDepth := 8) [go_sem, World.cell?_alloc_past, ltk2, ltk3, ltk4, ltk5, ltk6, ltk7, ltk8, ltk9, *]))
  have cc3_12 : v3.cell? ⟨w.heap.size + 1 + 1, 3, none⟩ = some (.int .i64 j') := (hb3.cell (p := ⟨w.heap.size + 1 + 1, 3, none⟩) (by first | omega | (simp [ext_size]; try omega))).trans (by (simp (maxDischargeDepth := 8) [go_sem, World.cell?_alloc_past, ltk2, ltk3, ltk4, ltk5, ltk6, ltk7, ltk8, ltk9, *]))
  have cc3_13 : v3.cell? ⟨w.heap.size + 1 + 1, 4, none⟩ = some (.int .i64 k') := (hb3.cell (p := ⟨w.heap.size + 1 + 1, 4, none⟩) (by first | omega | (simp [ext_size]; try omega))).trans (by (simp (maxDischargeDepth := 8) [go_sem, World.cell?_alloc_past, ltk2, ltk3, ltk4, ltk5, ltk6, ltk7, ltk8, ltk9, *]))
  have cc3_14 : v3.cell? ⟨w.heap.size + 1 + 1, 5, none⟩ = some (.int .i64 l') := (hb3.cell (p := ⟨w.heap.size + 1 + 1, 5, none⟩) (by first | omega | (simp [ext_size]; try omega))).trans (by (simp (maxDischargeDepth := 8) [go_sem, World.cell?_alloc_past, ltk2, ltk3, ltk4, ltk5, ltk6, ltk7, ltk8, ltk9, *]))
  have zl3_0 : w.heap.size < v3.heap.size := by omega
  have zl3_1 : w.heap.size + 1 < v3.heap.size := by omega
  have zl3_2 : w.heap.size + 1 + 1 < v3.heap.size := by omega
  have hB3 : Below w.heap.size w v3 := Below.trans (by (repeat (first | with_reducible exact hB2 | (with_reducible refine bext ?_ _ _) | (with_reducible refine below_drewN ?_ _) | (with_reducible refine Below.drew ?_) | (with_reducible refine bal ?_ _) | (with_reducible refine bset ?_ (by first | omega | (simp <;> omega)) _)))) (hb3.mono (by first | omega | (simp [ext_size]; try omega)))
  have zw3 := hB3.size
  clear hb3
  clear cc2_0 cc2_1 cc2_2 cc2_3 cc2_4 cc2_5 cc2_6 cc2_7 cc2_8 cc2_9 cc2_10 cc2_11 cc2_12 cc2_13 cc2_14 zl2_0 zl2_1 zl2_2 zz2 zw2 hB2
  go_wp2_with fail
  with_reducible refine (A4 _).mono ?_
  rintro e v4 ⟨rfl, hb4⟩
  have zz4 := hb4.size
  try simp [ext_size] at zz4
  have cc4_0 : v4.cell? ⟨w.heap.size + 1, 0, none⟩ = some (.int .i64 g) := (hb4.cell (p := ⟨w.heap.size + 1, 0, none⟩) (by first | omega | (simp [ext_size]; try omega))).trans (by (simp (maxDischargeDepth := 8) [go_sem, World.cell?_alloc_past, ltk2, ltk3, ltk4, ltk5, ltk6, ltk7, ltk8, ltk9, *]))
  have cc4_1 : v4.cell? ⟨w.heap.size + 1, 1, none⟩ = some (.int .i64 h) := (hb4.cell (p := ⟨w.heap.size + 1, 1, none⟩) (by first | omega | (simp [ext_size]; try omega))).trans (by (simp (maxDischargeDepth := 8) [go_sem, World.cell?_alloc_past, ltk2, ltk3, ltk4, ltk5, ltk6, ltk7, ltk8, ltk9, *]))
  have cc4_2 : v4.cell? ⟨w.heap.size + 1, 2, none⟩ = some (.int .i64 i) := (hb4.cell (p := ⟨w.heap.size + 1, 2, none⟩) (by first | omega | (simp [ext_size]; try omega))).trans (by (simp (maxDischargeDepth := 8) [go_sem, World.cell?_alloc_past, ltk2, ltk3, ltk4, ltk5, ltk6, ltk7, ltk8, ltk9, *]))
  have cc4_3 : v4.cell? ⟨w.heap.size + 1, 3, none⟩ = some (.int .i64 j) := (hb4.cell (p := ⟨w.heap.size + 1, 3, none⟩) (by first | omega | (simp [ext_size]; try omega))).trans (by (simp (maxDischargeDepth := 8) [go_sem, World.cell?_alloc_past, ltk2, ltk3, ltk4, ltk5, ltk6, ltk7, ltk8, ltk9, *]))
  have cc4_4 : v4.cell? ⟨w.heap.size + 1, 4, none⟩ = some (.int .i64 k) := (hb4.cell (p := ⟨w.heap.size + 1, 4, none⟩) (by first | omega | (simp [ext_size]; try omega))).trans (by (simp (maxDischargeDepth := 8) [go_sem, World.cell?_alloc_past, ltk2, ltk3, ltk4, ltk5, ltk6, ltk7, ltk8, ltk9, *]))
  have cc4_5 : v4.cell? ⟨w.heap.size + 1, 5, none⟩ = some (.int .i64 l) := (hb4.cell (p := ⟨w.heap.size + 1, 5, none⟩) (by first | omega | (simp [ext_size]; try omega))).trans (by (simp (maxDischargeDepth := 8) [go_sem, World.cell?_alloc_past, ltk2, ltk3, ltk4, ltk5, ltk6, ltk7, ltk8, ltk9, *]))
  have cc4_6 : v4.cell? ⟨w.heap.size + 1 + 1, 0, none⟩ = some (.int .i64 g') := (hb4.cell (p := ⟨w.heap.size + 1 + 1, 0, none⟩) (by first | omega | (simp [ext_size]; try omega))).trans (by (simp (maxDischargeDepth := 8) [go_sem, World.cell?_alloc_past, ltk2, ltk3, ltk4, ltk5, ltk6, ltk7, ltk8, ltk9, *]))
  have cc4_7 : v4.cell? ⟨w.heap.size + 1 + 1, 1, none⟩ = some (.int .i64 h') := (hb4.cell (p := ⟨w.heap.size + 1 + 1, 1, none⟩) (by first | omega | (simp [ext_size]; try omega))).trans (by (simp (maxDischargeDepth := 8) [go_sem, World.cell?_alloc_past, ltk2, ltk3, ltk4, ltk5, ltk6, ltk7, ltk8, ltk9, *]))
  have cc4_8 : v4.cell? ⟨w.heap.size + 1 + 1, 2, none⟩ = some (.int .i64 i') := (hb4.cell (p := ⟨w.heap.size + 1 + 1, 2, none⟩) (by first | omega | (simp [ext_size]; try omega))).trans (by (simp (maxDischargeDepth := 8) [go_sem, World.cell?_alloc_past, ltk2, ltk3, ltk4, ltk5, ltk6, ltk7, ltk8, ltk9, *]))
  have cc4_9 : v4.cell? ⟨w.heap.size + 1 + 1, 3, none⟩ = some (.int .i64 j') := (hb4.cell (p := ⟨w.heap.size + 1 + 1, 3, none⟩) (by first | omega | (simp [ext_size]; try omega))).trans (by (simp (maxDischargeDepth := 8) [go_sem, World.cell?_alloc_past, ltk2, ltk3, ltk4, ltk5, ltk6, ltk7, ltk8, ltk9, *]))
  have cc4_10 : v4.cell? ⟨w.heap.size + 1 + 1, 4, none⟩ = some (.int .i64 k') := (hb4.cell (p := ⟨w.heap.size + 1 + 1, 4, none⟩) (by first | omega | (simp [ext_size]; try omega))).trans (by (simp (maxDischargeDepth := 8) [go_sem, World.cell?_alloc_past, ltk2, ltk3, ltk4, ltk5, ltk6, ltk7, ltk8, ltk9, *]))
  have cc4_11 : v4.cell? ⟨w.heap.size + 1 + 1, 5, none⟩ = some (.int .i64 l') := (hb4.cell (p := ⟨w.heap.size + 1 + 1, 5, none⟩) (by first | omega | (simp [ext_size]; try omega))).trans (by (simp (maxDischargeDepth := 8) [go_sem, World.cell?_alloc_past, ltk2, ltk3, ltk4, ltk5, ltk6, ltk7, ltk8, ltk9, *]))
  have cc4_12 : v4.cell? ⟨v3.heap.size, 0, none⟩ = some (.int .i64 x0) := (hb4.cell (p := ⟨v3.heap.size, 0, none⟩) (by first | omega | (simp [ext_size]; try omega))).trans (by (simp (maxDischargeDepth := 8) [go_sem, World.cell?_alloc_past, ltk2, ltk3, ltk4, ltk5, ltk6, ltk7, ltk8, ltk9, *]))
  have cc4_13 : v4.cell? ⟨v3.heap.size, 1, none⟩ = some (.int .i64 x1) := (hb4.cell (p := ⟨v3.heap.size, 1, none⟩) (by first | omega | (simp [ext_size]; try omega))).trans (by (simp (maxDischargeDepth := 8) [go_sem, World.cell?_alloc_past, ltk2, ltk3, ltk4, ltk5, ltk6, ltk7, ltk8, ltk9, *]))
  have cc4_14 : v4.cell? ⟨v3.heap.size, 2, none⟩ = some (.int .i64 x2) := (hb4.cell (p := ⟨v3.heap.size, 2, none⟩) (by first | omega | (simp [ext_size]; try omega))).trans (by (simp (maxDischargeDepth := 8) [go_sem, World.cell?_alloc_past, ltk2, ltk3, ltk4, ltk5, ltk6, ltk7, ltk8, ltk9, *]))
  have cc4_15 : v4.cell? ⟨v3.heap.size, 3, none⟩ = some (.int .i64 x3) := (hb4.cell (p := ⟨v3.heap.size, 3, none⟩) (by first | omega | (simp [ext_size]; try omega))).trans (by (simp (maxDischargeDepth := 8) [go_sem, World.cell?_alloc_past, ltk2, ltk3, ltk4, ltk5, ltk6, ltk7, ltk8, ltk9, *]))
  have cc4_16 : v4.cell? ⟨v3.heap.size, 4, none⟩ = some (.int .i64 x4) := (hb4.cell (p := ⟨v3.heap.size, 4, none⟩) (by first | omega | (simp [ext_size]; try omega))).trans (by (simp (maxDischargeDepth := 8) [go_sem, World.cell?_alloc_past, ltk2, ltk3, ltk4, ltk5, ltk6, ltk7, ltk8, ltk9, *]))
  have cc4_17 : v4.cell? ⟨v3.heap.size, 5, none⟩ = some (.int .i64 x5) := (hb4.cell (p := ⟨v3.heap.size, 5, none⟩) (by first | omega | (simp [ext_size]; try omega))).trans (by (simp (maxDischargeDepth := 8) [go_sem, World.cell?_alloc_past, ltk2, ltk3, ltk4, ltk5, ltk6, ltk7, ltk8, ltk9, *]))
  have zl4_0 : w.heap.size + 1 < v4.heap.size := by omega
  have zl4_1 : w.heap.size + 1 + 1 < v4.heap.size := by omega
  have zl4_2 : v3.heap.size < v4.heap.size := by omega
  have hB4 : Below w.heap.size w v4 := Below.trans (by (repeat (first | with_reducible exact hB3 | (with_reducible refine bext ?_ _ _) | (with_reducible refine below_drewN ?_ _) | (with_reducible refine Below.drew ?_) | (with_reducible refine bal ?_ _) | (with_reducible refine bset ?_ (by first | omega | (simp <;> omega)) _)))) (hb4.mono (by first | omega | (simp [ext_size]; try omega)))
  have zw4 := hB4.size
  clear hb4
  clear cc3_0 cc3_1 cc3_2 cc3_3 cc3_4 cc3_5 cc3_6 cc3_7 cc3_8 cc3_9 cc3_10 cc3_11 cc3_12 cc3_13 cc3_14 zl3_0 zl3_1 zl3_2 zz3 zw3 hB3
  go_wp2_with fail
  with_reducible refine (A5 _).mono ?_
  rintro e v5 ⟨rfl, hb5⟩
  have zz5 := hb5.size
  try simp [ext_size] at zz5
  have cc5_0 : v5.cell? ⟨w.heap.size + 1, 0, none⟩ = some (.int .i64 g) := (hb5.cell (p := ⟨w.heap.size + 1, 0, none⟩) (by first | omega | (simp [ext_size]; try omega))).trans (by (simp (maxDischargeDepth := 8) [go_sem, World.cell?_alloc_past, ltk2, ltk3, ltk4, ltk5, ltk6, ltk7, ltk8, ltk9, *]))
  have cc5_1 : v5.cell? ⟨w.heap.size + 1, 1, none⟩ = some (.int .i64 h) := (hb5.cell (p := ⟨w.heap.size + 1, 1, none⟩) (by first | omega | (simp [ext_size]; try omega))).trans (by (simp (maxDischargeDepth := 8) [go_sem, World.cell?_alloc_past, ltk2, ltk3, ltk4, ltk5, ltk6, ltk7, ltk8, ltk9, *]))
  have cc5_2 : v5.cell? ⟨w.heap.size + 1, 2, none⟩ = some (.int .i64 i) := (hb5.cell (p := ⟨w.heap.size + 1, 2, none⟩) (by first | omega | (simp [ext_size]; try omega))).trans (by (simp (maxDischargeDepth := 8) [go_sem, World.cell?_alloc_past, ltk2, ltk3, ltk4, ltk5, ltk6, ltk7, ltk8, ltk9, *]))
  have cc5_3 : v5.cell? ⟨w.heap.size + 1, 3, none⟩ = some (.int .i64 j) := (hb5.cell (p := ⟨w.heap.size + 1, 3, none⟩) (by first | omega | (simp [ext_size]; try omega))).trans (by (simp (maxDischargeDepth := 8) [go_sem, World.cell?_alloc_past, ltk2, ltk3, ltk4, ltk5, ltk6, ltk7, ltk8, ltk9, *]))
  have cc5_4 : v5.cell? ⟨w.heap.size + 1, 4, none⟩ = some (.int .i64 k) := (hb5.cell (p := ⟨w.heap.size + 1, 4, none⟩) (by first | omega | (simp [ext_size]; try omega))).trans (by (simp (maxDischargeDepth := 8) [go_sem, World.cell?_alloc_past, ltk2, ltk3, ltk4, ltk5, ltk6, ltk7, ltk8, ltk9, *]))
  have cc5_5 : v5.cell? ⟨w.heap.size + 1, 5, none⟩ = some (.int .i64 l) := (hb5.cell (p := ⟨w.heap.size + 1, 5, none⟩) (by first | omega | (simp [ext_size]; try omega))).trans (by (simp (maxDischargeDepth := 8) [go_sem, World.cell?_alloc_past, ltk2, ltk3, ltk4, ltk5, ltk6, ltk7, ltk8, ltk9, *]))
  have cc5_6 : v5.cell? ⟨w.heap.size + 1 + 1, 0, none⟩ = some (.int .i64 g') := (hb5.cell (p := ⟨w.heap.size + 1 + 1, 0, none⟩) (by first | omega | (simp [ext_size]; try omega))).trans (by (simp (maxDischargeDepth := 8) [go_sem, World.cell?_alloc_past, ltk2, ltk3, ltk4, ltk5, ltk6, ltk7, ltk8, ltk9, *]))
  have cc5_7 : v5.cell? ⟨w.heap.size + 1 + 1, 1, none⟩ = some (.int .i64 h') := (hb5.cell (p := ⟨w.heap.size + 1 + 1, 1, none⟩) (by first | omega | (simp [ext_size]; try omega))).trans (by (simp (maxDischargeDepth := 8) [go_sem, World.cell?_alloc_past, ltk2, ltk3, ltk4, ltk5, ltk6, ltk7, ltk8, ltk9, *]))
  have cc5_8 : v5.cell? ⟨w.heap.size + 1 + 1, 2, none⟩ = some (.int .i64 i') := (hb5.cell (p := ⟨w.heap.size + 1 + 1, 2, none⟩) (by first | omega | (simp [ext_size]; try omega))).trans (by (simp (maxDischargeDepth := 8) [go_sem, World.cell?_alloc_past, ltk2, ltk3, ltk4, ltk5, ltk6, ltk7, ltk8, ltk9, *]))
  have cc5_9 : v5.cell? ⟨w.heap.size + 1 + 1, 3, none⟩ = some (.int .i64 j') := (hb5.cell (p := ⟨w.heap.size + 1 + 1, 3, none⟩) (by first | omega | (simp [ext_size]; try omega))).trans (by (simp (maxDischargeDepth := 8) [go_sem, World.cell?_alloc_past, ltk2, ltk3, ltk4, ltk5, ltk6, ltk7, ltk8, ltk9, *]))
  have cc5_10 : v5.cell? ⟨w.heap.size + 1 + 1, 4, none⟩ = some (.int .i64 k') := (hb5.cell (p := ⟨w.heap.size + 1 + 1, 4, none⟩) (by first | omega | (simp [ext_size]; try omega))).trans (by (simp (maxDischargeDepth := 8) [go_sem, World.cell?_alloc_past, ltk2, ltk3, ltk4, ltk5, ltk6, ltk7, ltk8, ltk9, *]))
  have cc5_11 : v5.cell? ⟨w.heap.size + 1 + 1, 5, none⟩ = some (.int .i64 l') := (hb5.cell (p := ⟨w.heap.size + 1 + 1, 5, none⟩) (by first | omega | (simp [ext_size]; try omega))).trans (by (simp (maxDischargeDepth := 8) [go_sem, World.cell?_alloc_past, ltk2, ltk3, ltk4, ltk5, ltk6, ltk7, ltk8, ltk9, *]))
  have cc5_12 : v5.cell? ⟨v3.heap.size, 0, none⟩ = some (.int .i64 x0) := (hb5.cell (p := ⟨v3.heap.size, 0, none⟩) (by first | omega | (simp [ext_size]; try omega))).trans (by (simp (maxDischargeDepth := 8) [go_sem, World.cell?_alloc_past, ltk2, ltk3, ltk4, ltk5, ltk6, ltk7, ltk8, ltk9, *]))
  have cc5_13 : v5.cell? ⟨v3.heap.size, 1, none⟩ = some (.int .i64 x1) := (hb5.cell (p := ⟨v3.heap.size, 1, none⟩) (by first | omega | (simp [ext_size]; try omega))).trans (by (simp (maxDischargeDepth := 8) [go_sem, World.cell?_alloc_past, ltk2, ltk3, ltk4, ltk5, ltk6, ltk7, ltk8, ltk9, *]))
  have cc5_14 : v5.cell? ⟨v3.heap.size, 2, none⟩ = some (.int .i64 x2) := (hb5.cell (p := ⟨v3.heap.size, 2, none⟩) (by first | omega | (simp [ext_size]; try omega))).trans (by (simp (maxDischargeDepth := 8) [go_sem, World.cell?_alloc_past, ltk2, ltk3, ltk4, ltk5, ltk6, ltk7, ltk8, ltk9, *]))
  have cc5_15 : v5.cell? ⟨v3.heap.size, 3, none⟩ = some (.int .i64 x3) := (hb5.cell (p := ⟨v3.heap.size, 3, none⟩) (by first | omega | (simp [ext_size]; try omega))).trans (by (simp (maxDischargeDepth := 8) [go_sem, World.cell?_alloc_past, ltk2, ltk3, ltk4, ltk5, ltk6, ltk7, ltk8, ltk9, *]))
  have cc5_16 : v5.cell? ⟨v3.heap.size, 4, none⟩ = some (.int .i64 x4) := (hb5.cell (p := ⟨v3.heap.size, 4, none⟩) (by first | omega | (simp [ext_size]; try omega))).trans (by (simp (maxDischargeDepth := 8) [go_sem, World.cell?_alloc_past, ltk2, ltk3, ltk4, ltk5, ltk6, ltk7, ltk8, ltk9, *]))
  have cc5_17 : v5.cell? ⟨v3.heap.size, 5, none⟩ = some (.int .i64 x5) := (hb5.cell (p := ⟨v3.heap.size, 5, none⟩) (by first | omega | (simp [ext_size]; try omega))).trans (by (simp (maxDischargeDepth := 8) [go_sem, World.cell?_alloc_past, ltk2, ltk3, ltk4, ltk5, ltk6, ltk7, ltk8, ltk9, *]))
  have cc5_18 : v5.cell? ⟨v4.heap.size, 0, none⟩ = some (.int .i64 x4) := (hb5.cell (p := ⟨v4.heap.size, 0, none⟩) (by first | omega | (simp [ext_size]; try omega))).trans (by (simp (maxDischargeDepth := 8) [go_sem, World.cell?_alloc_past, ltk2, ltk3, ltk4, ltk5, ltk6, ltk7, ltk8, ltk9, *]))
  have cc5_19 : v5.cell? ⟨v4.heap.size, 1, none⟩ = some (.int .i64 x5) := (hb5.cell (p := ⟨v4.heap.size, 1, none⟩) (by first | omega | (simp [ext_size]; try omega))).trans (by (simp (maxDischargeDepth := 8) [go_sem, World.cell?_alloc_past, ltk2, ltk3, ltk4, ltk5, ltk6, ltk7, ltk8, ltk9, *]))
  have zl5_0 : w.heap.size + 1 < v5.heap.size := by omega
  have zl5_1 : w.heap.size + 1 + 1 < v5.heap.size := by omega
  have zl5_2 : v3.heap.size < v5.heap.size := by omega
  have zl5_3 : v4.heap.size < v5.heap.size := by omega
  have hB5 : Below w.heap.size w v5 := Below.trans (by (repeat (first | with_reducible exact hB4 | (with_reducible refine bext ?_ _ _) | (with_reducible refine below_drewN ?_ _) | (with_reducible refine Below.drew ?_) | (with_reducible refine bal ?_ _) | (with_reducible refine bset ?_ (by first | omega | (simp <;> omega)) _)))) (hb5.mono (by first | omega | (simp [ext_size]; try omega)))
  have zw5 := hB5.size
  clear hb5
  clear cc4_0 cc4_1 cc4_2 cc4_3 cc4_4 cc4_5 cc4_6 cc4_7 cc4_8 cc4_9 cc4_10 cc4_11 cc4_12 cc4_13 cc4_14 cc4_15 cc4_16 cc4_17 zl4_0 zl4_1 zl4_2 zz4 zw4 hB4
  go_wp2_with fail
  with_reducible refine (A6 _).mono ?_
  rintro e v6 ⟨rfl, hb6⟩
  have zz6 := hb6.size
  try simp [ext_size] at zz6
  have cc6_0 : v6.cell? ⟨w.heap.size + 1, 0, none⟩ = some (.int .i64 g) := (hb6.cell (p := ⟨w.heap.size + 1, 0, none⟩) (by first | omega | (simp [ext_size]; try omega))).trans (by (simp (maxDischargeDepth := 8) [go_sem, World.cell?_alloc_past, ltk2, ltk3, ltk4, ltk5, ltk6, ltk7, ltk8, ltk9, *]))
  have cc6_1 : v6.cell? ⟨w.heap.size + 1, 1, none⟩ = some (.int .i64 h) := (hb6.cell (p := ⟨w.heap.size + 1, 1, none⟩) (by first | omega | (simp [ext_size]; try omega))).trans (by (simp (maxDischargeDepth := 8) [go_sem, World.cell?_alloc_past, ltk2, ltk3, ltk4, ltk5, ltk6, ltk7, ltk8, ltk9, *]))
  have cc6_2 : v6.cell? ⟨w.heap.size + 1, 2, none⟩ = some (.int .i64 i) := (hb6.cell (p := ⟨w.heap.size + 1, 2, none⟩) (by first | omega | (simp [ext_size]; try omega))).trans (by (simp (maxDischargeDepth := 8) [go_sem, World.cell?_alloc_past, ltk2, ltk3, ltk4, ltk5, ltk6, ltk7, ltk8, ltk9, *]))
  have cc6_3 : v6.cell? ⟨w.heap.size + 1, 3, none⟩ = some (.int .i64 j) := (hb6.cell (p := ⟨w.heap.size + 1, 3, none⟩) (by first | omega | (simp [ext_size]; try omega))).trans (by (simp (maxDischargeDepth := 8) [go_sem, World.cell?_alloc_past, ltk2, ltk3, ltk4, ltk5, ltk6, ltk7, ltk8, ltk9, *]))
  have cc6_4 : v6.cell? ⟨w.heap.size + 1, 4, none⟩ = some (.int .i64 k) := (hb6.cell (p := ⟨w.heap.size + 1, 4, none⟩) (by first | omega | (simp [ext_size]; try omega))).trans (by (simp (maxDischargeDepth := 8) [go_sem, World.cell?_alloc_past, ltk2, ltk3, ltk4, ltk5, ltk6, ltk7, ltk8, ltk9, *]))
  have cc6_5 : v6.cell? ⟨w.heap.size + 1, 5, none⟩ = some (.int .i64 l) := (hb6.cell (p := ⟨w.heap.size + 1, 5, none⟩) (by first | omega | (simp [ext_size]; try omega))).trans (by (simp (maxDischargeDepth := 8) [go_sem, World.cell?_alloc_past, ltk2, ltk3, ltk4, ltk5, ltk6, ltk7, ltk8, ltk9, *]))
  have cc6_6 : v6.cell? ⟨w.heap.size + 1 + 1, 0, none⟩ = some (.int .i64 g') := (hb6.cell (p := ⟨w.heap.size + 1 + 1, 0, none⟩) (by first | omega | (simp [ext_size]; try omega))).trans (by (simp (maxDischargeDepth := 8) [go_sem, World.cell?_alloc_past, ltk2, ltk3, ltk4, ltk5, ltk6, ltk7, ltk8, ltk9, *]))
  have cc6_7 : v6.cell? ⟨w.heap.size + 1 + 1, 1, none⟩ = some (.int .i64 h') := (hb6.cell (p := ⟨w.heap.size + 1 + 1, 1, none⟩) (by first | omega | (simp [ext_size]; try omega))).trans (by (simp (maxDischargeDepth := 8) [go_sem, World.cell?_alloc_past, ltk2, ltk3, ltk4, ltk5, ltk6, ltk7, ltk8, ltk9, *]))
  have cc6_8 : v6.cell? ⟨w.heap.size + 1 + 1, 2, none⟩ = some (.int .i64 i') := (hb6.cell (p := ⟨w.heap.size + 1 + 1, 2, none⟩) (by first | omega | (simp [ext_size]; try omega))).trans (by (simp (maxDischargeDepth := 8) [go_sem, World.cell?_alloc_past, ltk2, ltk3, ltk4, ltk5, ltk6, ltk7, ltk8, ltk9, *]))
  have cc6_9 : v6.cell? ⟨w.heap.size + 1 + 1, 3, none⟩ = some (.int .i64 j') := (hb6.cell (p := ⟨w.heap.size + 1 + 1, 3, none⟩) (by first | omega | (simp [ext_size]; try omega))).trans (by (simp (maxDischargeDepth := 8) [go_sem, World.cell?_alloc_past, ltk2, ltk3, ltk4, ltk5, ltk6, ltk7, ltk8, ltk9, *]))
  have cc6_10 : v6.cell? ⟨w.heap.size + 1 + 1, 4, none⟩ = some (.int .i64 k') := (hb6.cell (p := ⟨w.heap.size + 1 + 1, 4, none⟩) (by first | omega | (simp [ext_size]; try omega))).trans (by (simp (maxDischargeDepth := 8) [go_sem, World.cell?_alloc_past, ltk2, ltk3, ltk4, ltk5, ltk6, ltk7, ltk8, ltk9, *]))
  have cc6_11 : v6.cell? ⟨w.heap.size + 1 + 1, 5, none⟩ = some (.int .i64 l') := (hb6.cell (p := ⟨w.heap.size + 1 + 1, 5, none⟩) (by first | omega | (simp [ext_size]; try omega))).trans (by (simp (maxDischargeDepth := 8) [go_sem, World.cell?_alloc_past, ltk2, ltk3, ltk4, ltk5, ltk6, ltk7, ltk8, ltk9, *]))
  have cc6_12 : v6.cell? ⟨v3.heap.size, 0, none⟩ = some (.int .i64 x0) := (hb6.cell (p := ⟨v3.heap.size, 0, none⟩) (by first | omega | (simp [ext_size]; try omega))).trans (by (simp (maxDischargeDepth := 8) [go_sem, World.cell?_alloc_past, ltk2, ltk3, ltk4, ltk5, ltk6, ltk7, ltk8, ltk9, *]))
  have cc6_13 : v6.cell? ⟨v3.heap.size, 1, none⟩ = some (.int .i64 x1) := (hb6.cell (p := ⟨v3.heap.size, 1, none⟩) (by first | omega | (simp [ext_size]; try omega))).trans (by (simp (maxDischargeDepth := 8) [go_sem, World.cell?_alloc_past, ltk2, ltk3, ltk4, ltk5, ltk6, ltk7, ltk8, ltk9, *]))
  have cc6_14 : v6.cell? ⟨v3.heap.size, 2, none⟩ = some (.int .i64 x2) := (hb6.cell (p := ⟨v3.heap.size, 2, none⟩) (by first | omega | (simp [ext_size]; try omega))).trans (by (simp (maxDischargeDepth := 8) [go_sem, World.cell?_alloc_past, ltk2, ltk3, ltk4, ltk5, ltk6, ltk7, ltk8, ltk9, *]))
  have cc6_15 : v6.cell? ⟨v3.heap.size, 3, none⟩ = some (.int .i64 x3) := (hb6.cell (p := ⟨v3.heap.size, 3, none⟩) (by first | omega | (simp [ext_size]; try omega))).trans (by (simp (maxDischargeDepth := 8) [go_sem, World.cell?_alloc_past, ltk2, ltk3, ltk4, ltk5, ltk6, ltk7, ltk8, ltk9, *]))
  have cc6_16 : v6.cell? ⟨v3.heap.size, 4, none⟩ = some (.int .i64 x4) := (hb6.cell (p := ⟨v3.heap.size, 4, none⟩) (by first | omega | (simp [ext_size]; try omega))).trans (by (simp (maxDischargeDepth := 8) [go_sem, World.cell?_alloc_past, ltk2, ltk3, ltk4, ltk5, ltk6, ltk7, ltk8, ltk9, *]))
  have cc6_17 : v6.cell? ⟨v3.heap.size, 5, none⟩ = some (.int .i64 x5) := (hb6.cell (p := ⟨v3.heap.size, 5, none⟩) (by first | omega | (simp [ext_size]; try omega))).trans (by (simp (maxDischargeDepth := 8) [go_sem, World.cell?_alloc_past, ltk2, ltk3, ltk4, ltk5, ltk6, ltk7, ltk8, ltk9, *]))
  have cc6_18 : v6.cell? ⟨v5.heap.size, 0, none⟩ = some (.int .i64 u0) := (hb6.cell (p := ⟨v5.heap.size, 0, none⟩) (by first | omega | (simp [ext_size]; try omega))).trans (by (simp (maxDischargeDepth := 8) [go_sem, World.cell?_alloc_past, ltk2, ltk3, ltk4, ltk5, ltk6, ltk7, ltk8, ltk9, *]))
  have cc6_19 : v6.cell? ⟨v5.heap.size, 1, none⟩ = some (.int .i64 u1) := (hb6.cell (p := ⟨v5.heap.size, 1, none⟩) (by first | omega | (simp [ext_size]; try omega))).trans (by (simp (maxDischargeDepth := 8) [go_sem, World.cell?_alloc_past, ltk2, ltk3, ltk4, ltk5, ltk6, ltk7, ltk8, ltk9, *]))
  have cc6_20 : v6.cell? ⟨v5.heap.size, 2, none⟩ = some (.int .i64 u2) := (hb6.cell (p := ⟨v5.heap.size, 2, none⟩) (by first | omega | (simp [ext_size]; try omega))).trans (by (simp (maxDischargeDepth := 8) [go_sem, World.cell?_alloc_past, ltk2, ltk3, ltk4, ltk5, ltk6, ltk7, ltk8, ltk9, *]))
  have cc6_21 : v6.cell? ⟨v5.heap.size, 3, none⟩ = some (.int .i64 u3) := (hb6.cell (p := ⟨v5.heap.size, 3, none⟩) (by first | omega | (simp [ext_size]; try omega))).trans (by (simp (maxDischargeDepth := 8) [go_sem, World.cell?_alloc_past, ltk2, ltk3, ltk4, ltk5, ltk6, ltk7, ltk8, ltk9, *]))
  have cc6_22 : v6.cell? ⟨v5.heap.size, 4, none⟩ = some (.int .i64 u4) := (hb6.cell (p := ⟨v5.heap.size, 4, none⟩) (by first | omega | (simp [ext_size]; try omega))).trans (by (simp (maxDischargeDepth := 8) [go_sem, World.cell?_alloc_past, ltk2, ltk3, ltk4, ltk5, ltk6, ltk7, ltk8, ltk9, *]))
  have cc6_23 : v6.cell? ⟨v5.heap.size, 5, none⟩ = some (.int .i64 u5) := (hb6.cell (p := ⟨v5.heap.size, 5, none⟩) (by first | omega | (simp [ext_size]; try omega))).trans (by (simp (maxDischargeDepth := 8) [go_sem, World.cell?_alloc_past, ltk2, ltk3, ltk4, ltk5, ltk6, ltk7, ltk8, ltk9, *]))
  have zl6_0 : w.heap.size + 1 < v6.heap.size := by omega
  have zl6_1 : w.heap.size + 1 + 1 < v6.heap.size := by omega
  have zl6_2 : v3.heap.size < v6.heap.size := by omega
  have zl6_3 : v5.heap.size < v6.heap.size := by omega
  have hB6 : Below w.heap.size w v6 := Below.trans (by (repeat (first | with_reducible exact hB5 | (with_reducible refine bext ?_ _ _) | (with_reducible refine below_drewN ?_ _) | (with_reducible refine Below.drew ?_) | (with_reducible refine bal ?_ _) | (with_reducible refine bset ?_ (by first | omega | (simp <;> omega)) _)))) (hb6.mono (by first | omega | (simp [ext_size]; try omega)))
  have zw6 := hB6.size
  clear hb6
  clear cc5_0 cc5_1 cc5_2 cc5_3 cc5_4 cc5_5 cc5_6 cc5_7 cc5_8 cc5_9 cc5_10 cc5_11 cc5_12 cc5_13 cc5_14 cc5_15 cc5_16 cc5_17 cc5_18 cc5_19 zl5_0 zl5_1 zl5_2 zl5_3 zz5 zw5 hB5
  go_wp2_with fail
  with_reducible refine (A7 _).mono ?_
  rintro e v7 ⟨rfl, hb7⟩
  have zz7 := hb7.size
  try simp [ext_size] at zz7
  have cc7_0 : v7.cell? ⟨w.heap.size + 1 + 1, 0, none⟩ = some (.int .i64 g') := (hb7.cell (p := ⟨w.heap.size + 1 + 1, 0, none⟩) (by first | omega | (simp [ext_size]; try omega))).trans (by (simp (maxDischargeDepth := 8) [go_sem, World.cell?_alloc_past, ltk2, ltk3, ltk4, ltk5, ltk6, ltk7, ltk8, ltk9, *]))
  have cc7_1 : v7.cell? ⟨w.heap.size + 1 + 1, 1, none⟩ = some (.int .i64 h') := (hb7.cell (p := ⟨w.heap.size + 1 + 1, 1, none⟩) (by first | omega | (simp [ext_size]; try omega))).trans (by (simp (maxDischargeDepth := 8) [go_sem, World.cell?_alloc_past, ltk2, ltk3, ltk4, ltk5, ltk6, ltk7, ltk8, ltk9, *]))
  have cc7_2 : v7.cell? ⟨w.heap.size + 1 + 1, 2, none⟩ = some (.int .i64 i') := (hb7.cell (p := ⟨w.heap.size + 1 + 1, 2, none⟩) (by first | omega | (simp [ext_size]; try omega))).trans (by (simp (maxDischargeDepth := 8) [go_sem, World.cell?_alloc_past, ltk2, ltk3, ltk4, ltk5, ltk6, ltk7, ltk8, ltk9, *]))
  have cc7_3 : v7.cell? ⟨w.heap.size + 1 + 1, 3, none⟩ = some (.int .i64 j') := (hb7.cell (p := ⟨w.heap.size + 1 + 1, 3, none⟩) (by first | omega | (simp [ext_size]; try omega))).trans (by (simp (maxDischargeDepth := 8) [go_sem, World.cell?_alloc_past, ltk2, ltk3, ltk4, ltk5, ltk6, ltk7, ltk8, ltk9, *]))
  have cc7_4 : v7.cell? ⟨w.heap.size + 1 + 1, 4, none⟩ = some (.int .i64 k') := (hb7.cell (p := ⟨w.heap.size + 1 + 1, 4, none⟩) (by first | omega | (simp [ext_size]; try omega))).trans (by (simp (maxDischargeDepth := 8) [go_sem, World.cell?_alloc_past, ltk2, ltk3, ltk4, ltk5, ltk6, ltk7, ltk8, ltk9, *]))
  have cc7_5 : v7.cell? ⟨w.heap.size + 1 + 1, 5, none⟩ = some (.int .i64 l') := (hb7.cell (p := ⟨w.heap.size + 1 + 1, 5, none⟩) (by first | omega | (simp [ext_size]; try omega))).trans (by (simp (maxDischargeDepth := 8) [go_sem, World.cell?_alloc_past, ltk2, ltk3, ltk4, ltk5, ltk6, ltk7, ltk8, ltk9, *]))
  have cc7_6 : v7.cell? ⟨v3.heap.size, 0, none⟩ = some (.int .i64 x0) := (hb7.cell (p := ⟨v3.heap.size, 0, none⟩) (by first | omega | (simp [ext_size]; try omega))).trans (by (simp (maxDischargeDepth := 8) [go_sem, World.cell?_alloc_past, ltk2, ltk3, ltk4, ltk5, ltk6, ltk7, ltk8, ltk9, *]))
  have cc7_7 : v7.cell? ⟨v3.heap.size, 1, none⟩ = some (.int .i64 x1) := (hb7.cell (p := ⟨v3.heap.size, 1, none⟩) (by first | omega | (simp [ext_size]; try omega))).trans (by (simp (maxDischargeDepth := 8) [go_sem, World.cell?_alloc_past, ltk2, ltk3, ltk4, ltk5, ltk6, ltk7, ltk8, ltk9, *]))
  have cc7_8 : v7.cell? ⟨v3.heap.size, 2, none⟩ = some (.int .i64 x2) := (hb7.cell (p := ⟨v3.heap.size, 2, none⟩) (by first | omega | (simp [ext_size]; try omega))).trans (by (simp (maxDischargeDepth := 8) [go_sem, World.cell?_alloc_past, ltk2, ltk3, ltk4, ltk5, ltk6, ltk7, ltk8, ltk9, *]))
  have cc7_9 : v7.cell? ⟨v3.heap.size, 3, none⟩ = some (.int .i64 x3) := (hb7.cell (p := ⟨v3.heap.size, 3, none⟩) (by first | omega | (simp [ext_size]; try omega))).trans (by (simp (maxDischargeDepth := 8) [go_sem, World.cell?_alloc_past, ltk2, ltk3, ltk4, ltk5, ltk6, ltk7, ltk8, ltk9, *]))
  have cc7_10 : v7.cell? ⟨v3.heap.size, 4, none⟩ = some (.int .i64 x4) := (hb7.cell (p := ⟨v3.heap.size, 4, none⟩) (by first | omega | (simp [ext_size]; try omega))).trans (by (simp (maxDischargeDepth := 8) [go_sem, World.cell?_alloc_past, ltk2, ltk3, ltk4, ltk5, ltk6, ltk7, ltk8, ltk9, *]))
  have cc7_11 : v7.cell? ⟨v3.heap.size, 5, none⟩ = some (.int .i64 x5) := (hb7.cell (p := ⟨v3.heap.size, 5, none⟩) (by first | omega | (simp [ext_size]; try omega))).trans (by (simp (maxDischargeDepth := 8) [go_sem, World.cell?_alloc_past, ltk2, ltk3, ltk4, ltk5, ltk6, ltk7, ltk8, ltk9, *]))
  have cc7_12 : v7.cell? ⟨v5.heap.size, 0, none⟩ = some (.int .i64 u0) := (hb7.cell (p := ⟨v5.heap.size, 0, none⟩) (by first | omega | (simp [ext_size]; try omega))).trans (by (simp (maxDischargeDepth := 8) [go_sem, World.cell?_alloc_past, ltk2, ltk3, ltk4, ltk5, ltk6, ltk7, ltk8, ltk9, *]))
  have cc7_13 : v7.cell? ⟨v5.heap.size, 1, none⟩ = some (.int .i64 u1) := (hb7.cell (p := ⟨v5.heap.size, 1, none⟩) (by first | omega | (simp [ext_size]; try omega))).trans (by (simp (maxDischargeDepth := 8) [go_sem, World.cell?_alloc_past, ltk2, ltk3, ltk4, ltk5, ltk6, ltk7, ltk8, ltk9, *]))
  have cc7_14 : v7.cell? ⟨v5.heap.size, 2, none⟩ = some (.int .i64 u2) := (hb7.cell (p := ⟨v5.heap.size, 2, none⟩) (by first | omega | (simp [ext_size]; try omega))).trans (by (simp (maxDischargeDepth := 8) [go_sem, World.cell?_alloc_past, ltk2, ltk3, ltk4, ltk5, ltk6, ltk7, ltk8, ltk9, *]))
  have cc7_15 : v7.cell? ⟨v5.heap.size, 3, none⟩ = some (.int .i64 u3) := (hb7.cell (p := ⟨v5.heap.size, 3, none⟩) (by first | omega | (simp [ext_size]; try omega))).trans (by (simp (maxDischargeDepth := 8) [go_sem, World.cell?_alloc_past, ltk2, ltk3, ltk4, ltk5, ltk6, ltk7, ltk8, ltk9, *]))
  have cc7_16 : v7.cell? ⟨v5.heap.size, 4, none⟩ = some (.int .i64 u4) := (hb7.cell (p := ⟨v5.heap.size, 4, none⟩) (by first | omega | (simp [ext_size]; try omega))).trans (by (simp (maxDischargeDepth := 8) [go_sem, World.cell?_alloc_past, ltk2, ltk3, ltk4, ltk5, ltk6, ltk7, ltk8, ltk9, *]))
  have cc7_17 : v7.cell? ⟨v5.heap.size, 5, none⟩ = some (.int .i64 u5) := (hb7.cell (p := ⟨v5.heap.size, 5, none⟩) (by first | omega | (simp [ext_size]; try omega))).trans (by (simp (maxDischargeDepth := 8) [go_sem, World.cell?_alloc_past, ltk2, ltk3, ltk4, ltk5, ltk6, ltk7, ltk8, ltk9, *]))
  have cc7_18 : v7.cell? ⟨v6.heap.size, 0, none⟩ = some (.int .i64 p0) := (hb7.cell (p := ⟨v6.heap.size, 0, none⟩) (by first | omega | (simp [ext_size]; try omega))).trans (by (simp (maxDischargeDepth := 8) [go_sem, World.cell?_alloc_past, ltk2, ltk3, ltk4, ltk5, ltk6, ltk7, ltk8, ltk9, *]))
  have cc7_19 : v7.cell? ⟨v6.heap.size, 1, none⟩ = some (.int .i64 p1) := (hb7.cell (p := ⟨v6.heap.size, 1, none⟩) (by first | omega | (simp [ext_size]; try omega))).trans (by (simp (maxDischargeDepth := 8) [go_sem, World.cell?_alloc_past, ltk2, ltk3, ltk4, ltk5, ltk6, ltk7, ltk8, ltk9, *]))
  have zl7_0 : w.heap.size + 1 + 1 < v7.heap.size := by omega
  have zl7_1 : v3.heap.size < v7.heap.size := by omega
  have zl7_2 : v5.heap.size < v7.heap.size := by omega
  have zl7_3 : v6.heap.size < v7.heap.size := by omega
  have hB7 : Below w.heap.size w v7 := Below.trans (by (repeat (first | with_reducible exact hB6 | (with_reducible refine bext ?_ _ _) | (with_reducible refine below_drewN ?_ _) | (with_reducible refine Below.drew ?_) | (with_reducible refine bal ?_ _) | (with_reducible refine bset ?_ (by first | omega | (simp <;> omega)) _)))) (hb7.mono (by first | omega | (simp [ext_size]; try omega)))
  have zw7 := hB7.size
  clear hb7
  clear cc6_0 cc6_1 cc6_2 cc6_3 cc6_4 cc6_5 cc6_6 cc6_7 cc6_8 cc6_9 cc6_10 cc6_11 cc6_12 cc6_13 cc6_14 cc6_15 cc6_16 cc6_17 cc6_18 cc6_19 cc6_20 cc6_21 cc6_22 cc6_23 zl6_0 zl6_1 zl6_2 zl6_3 zz6 zw6 hB6
  go_wp2_with fail
  with_reducible refine (A8 _).mono ?_
  rintro e v8 ⟨rfl, hb8⟩
  have zz8 := hb8.size
  try simp [ext_size] at zz8
  have cc8_0 : v8.cell? ⟨v3.heap.size, 0, none⟩ = some (.int .i64 x0) := (hb8.cell (p := ⟨v3.heap.size, 0, none⟩) (by first | omega | (simp [ext_size]; try omega))).trans (by (simp (maxDischargeDepth := 8) [go_sem, World.cell?_alloc_past, ltk2, ltk3, ltk4, ltk5, ltk6, ltk7, ltk8, ltk9, *]))
  have cc8_1 : v8.cell? ⟨v3.heap.size, 1, none⟩ = some (.int .i64 x1) := (hb8.cell (p := ⟨v3.heap.size, 1, none⟩) (by first | omega | (simp [ext_size]; try omega))).trans (by (simp (maxDischargeDepth := 8) [go_sem, World.cell?_alloc_past, ltk2, ltk3, ltk4, ltk5, ltk6, ltk7, ltk8, ltk9, *]))
  have cc8_2 : v8.cell? ⟨v3.heap.size, 2, none⟩ = some (.int .i64 x2) := (hb8.cell (p := ⟨v3.heap.size, 2, none⟩) (by first | omega | (simp [ext_size]; try omega))).trans (by (simp (maxDischargeDepth := 8) [go_sem, World.cell?_alloc_past, ltk2, ltk3, ltk4, ltk5, ltk6, ltk7, ltk8, ltk9, *]))
  have cc8_3 : v8.cell? ⟨v3.heap.size, 3, none⟩ = some (.int .i64 x3) := (hb8.cell (p := ⟨v3.heap.size, 3, none⟩) (by first | omega | (simp [ext_size]; try omega))).trans (by (simp (maxDischargeDepth := 8) [go_sem, World.cell?_alloc_past, ltk2, ltk3, ltk4, ltk5, ltk6, ltk7, ltk8, ltk9, *]))
  have cc8_4 : v8.cell? ⟨v3.heap.size, 4, none⟩ = some (.int .i64 x4) := (hb8.cell (p := ⟨v3.heap.size, 4, none⟩) (by first | omega | (simp [ext_size]; try omega))).trans (by (simp (maxDischargeDepth := 8) [go_sem, World.cell?_alloc_past, ltk2, ltk3, ltk4, ltk5, ltk6, ltk7, ltk8, ltk9, *]))
  have cc8_5 : v8.cell? ⟨v3.heap.size, 5, none⟩ = some (.int .i64 x5) := (hb8.cell (p := ⟨v3.heap.size, 5, none⟩) (by first | omega | (simp [ext_size]; try omega))).trans (by (simp (maxDischargeDepth := 8) [go_sem, World.cell?_alloc_past, ltk2, ltk3, ltk4, ltk5, ltk6, ltk7, ltk8, ltk9, *]))
  have cc8_6 : v8.cell? ⟨v5.heap.size, 0, none⟩ = some (.int .i64 u0) := (hb8.cell (p := ⟨v5.heap.size, 0, none⟩) (by first | omega | (simp [ext_size]; try omega))).trans (by (simp (maxDischargeDepth := 8) [go_sem, World.cell?_alloc_past, ltk2, ltk3, ltk4, ltk5, ltk6, ltk7, ltk8, ltk9, *]))
  have cc8_7 : v8.cell? ⟨v5.heap.size, 1, none⟩ = some (.int .i64 u1) := (hb8.cell (p := ⟨v5.heap.size, 1, none⟩) (by first | omega | (simp [ext_size]; try omega))).trans (by (simp (maxDischargeDepth := 8) [go_sem, World.cell?_alloc_past, ltk2, ltk3, ltk4, ltk5, ltk6, ltk7, ltk8, ltk9, *]))
  have cc8_8 : v8.cell? ⟨v5.heap.size, 2, none⟩ = some (.int .i64 u2) := (hb8.cell (p := ⟨v5.heap.size, 2, none⟩) (by first | omega | (simp [ext_size]; try omega))).trans (by (simp (maxDischargeDepth := 8) [go_sem, World.cell?_alloc_past, ltk2, ltk3, ltk4, ltk5, ltk6, ltk7, ltk8, ltk9, *]))
  have cc8_9 : v8.cell? ⟨v5.heap.size, 3, none⟩ = some (.int .i64 u3) := (hb8.cell (p := ⟨v5.heap.size, 3, none⟩) (by first | omega | (simp [ext_size]; try omega))).trans (by (simp (maxDischargeDepth := 8) [go_sem, World.cell?_alloc_past, ltk2, ltk3, ltk4, ltk5, ltk6, ltk7, ltk8, ltk9, *]))
  have cc8_10 : v8.cell? ⟨v5.heap.size, 4, none⟩ = some (.int .i64 u4) := (hb8.cell (p := ⟨v5.heap.size, 4, none⟩) (by first | omega | (simp [ext_size]; try omega))).trans (by (simp (maxDischargeDepth := 8) [go_sem, World.cell?_alloc_past, ltk2, ltk3, ltk4, ltk5, ltk6, ltk7, ltk8, ltk9, *]))
  have cc8_11 : v8.cell? ⟨v5.heap.size, 5, none⟩ = some (.int .i64 u5) := (hb8.cell (p := ⟨v5.heap.size, 5, none⟩) (by first | omega | (simp [ext_size]; try omega))).trans (by (simp (maxDischargeDepth := 8) [go_sem, World.cell?_alloc_past, ltk2, ltk3, ltk4, ltk5, ltk6, ltk7, ltk8, ltk9, *]))
  have cc8_12 : v8.cell? ⟨v6.heap.size, 0, none⟩ = some (.int .i64 p0) := (hb8.cell (p := ⟨v6.heap.size, 0, none⟩) (by first | omega | (simp [ext_size]; try omega))).trans (by (simp (maxDischargeDepth := 8) [go_sem, World.cell?_alloc_past, ltk2, ltk3, ltk4, ltk5, ltk6, ltk7, ltk8, ltk9, *]))
  have cc8_13 : v8.cell? ⟨v6.heap.size, 1, none⟩ = some (.int .i64 p1) := (hb8.cell (p := ⟨v6.heap.size, 1, none⟩) (by first | omega | (simp [ext_size]; try omega))).trans (by (simp (maxDischargeDepth := 8) [go_sem, World.cell?_alloc_past, ltk2, ltk3, ltk4, ltk5, ltk6, ltk7, ltk8, ltk9, *]))
  have cc8_14 : v8.cell? ⟨v7.heap.size, 0, none⟩ = some (.int .i64 q0) := (hb8.cell (p := ⟨v7.heap.size, 0, none⟩) (by first | omega | (simp [ext_size]; try omega))).trans (by (simp (maxDischargeDepth := 8) [go_sem, World.cell?_alloc_past, ltk2, ltk3, ltk4, ltk5, ltk6, ltk7, ltk8, ltk9, *]))
  have cc8_15 : v8.cell? ⟨v7.heap.size, 1, none⟩ = some (.int .i64 q1) := (hb8.cell (p := ⟨v7.heap.size, 1, none⟩) (by first | omega | (simp [ext_size]; try omega))).trans (by (simp (maxDischargeDepth := 8) [go_sem, World.cell?_alloc_past, ltk2, ltk3, ltk4, ltk5, ltk6, ltk7, ltk8, ltk9, *]))
  have zl8_0 : v3.heap.size < v8.heap.size := by omega
  have zl8_1 : v5.heap.size < v8.heap.size := by omega
  have zl8_2 : v6.heap.size < v8.heap.size := by omega
  have zl8_3 : v7.heap.size < v8.heap.size := by omega
  have hB8 : Below w.heap.size w v8 := Below.trans (by (repeat (first | with_reducible exact hB7 | (with_reducible refine bext ?_ _ _) | (with_reducible refine below_drewN ?_ _) | (with_reducible refine Below.drew ?_) | (with_reducible refine bal ?_ _) | (with_reducible refine bset ?_ (by first | omega | (simp <;> omega)) _)))) (hb8.mono (by first | omega | (simp [ext_size]; try omega)))
  have zw8 := hB8.size
  clear hb8
  clear cc7_0 cc7_1 cc7_2 cc7_3 cc7_4 cc7_5 cc7_6 cc7_7 cc7_8 cc7_9 cc7_10 cc7_11 cc7_12 cc7_13 cc7_14 cc7_15 cc7_16 cc7_17 cc7_18 cc7_19 zl7_0 zl7_1 zl7_2 zl7_3 zz7 zw7 hB7
  go_wp2_with fail
  with_reducible refine (A9 _).mono ?_
  rintro e v9 ⟨rfl, hb9⟩
  have zz9 := hb9.size
  try simp [ext_size] at zz9
  have cc9_0 : v9.cell? ⟨v3.heap.size, 0, none⟩ = some (.int .i64 x0) := (hb9.cell (p := ⟨v3.heap.size, 0, none⟩) (by first | omega | (simp [ext_size]; try omega))).trans (by (simp (maxDischargeDepth := 8) [go_sem, World.cell?_alloc_past, ltk2, ltk3, ltk4, ltk5, ltk6, ltk7, ltk8, ltk9, *]))
  have cc9_1 : v9.cell? ⟨v3.heap.size, 1, none⟩ = some (.int .i64 x1) := (hb9.cell (p := ⟨v3.heap.size, 1, none⟩) (by first | omega | (simp [ext_size]; try omega))).trans (by (simp (maxDischargeDepth := 8) [go_sem, World.cell?_alloc_past, ltk2, ltk3, ltk4, ltk5, ltk6, ltk7, ltk8, ltk9, *]))
  have cc9_2 : v9.cell? ⟨v3.heap.size, 2, none⟩ = some (.int .i64 x2) := (hb9.cell (p := ⟨v3.heap.size, 2, none⟩) (by first | omega | (simp [ext_size]; try omega))).trans (by (simp (maxDischargeDepth := 8) [go_sem, World.cell?_alloc_past, ltk2, ltk3, ltk4, ltk5, ltk6, ltk7, ltk8, ltk9, *]))
  have cc9_3 : v9.cell? ⟨v3.heap.size, 3, none⟩ = some (.int .i64 x3) := (hb9.cell (p := ⟨v3.heap.size, 3, none⟩) (by first | omega | (simp [ext_size]; try omega))).trans (by (simp (maxDischargeDepth := 8) [go_sem, World.cell?_alloc_past, ltk2, ltk3, ltk4, ltk5, ltk6, ltk7, ltk8, ltk9, *]))
  have cc9_4 : v9.cell? ⟨v3.heap.size, 4, none⟩ = some (.int .i64 x4) := (hb9.cell (p := ⟨v3.heap.size, 4, none⟩) (by first | omega | (simp [ext_size]; try omega))).trans (by (simp (maxDischargeDepth := 8) [go_sem, World.cell?_alloc_past, ltk2, ltk3, ltk4, ltk5, ltk6, ltk7, ltk8, ltk9, *]))
  have cc9_5 : v9.cell? ⟨v3.heap.size, 5, none⟩ = some (.int .i64 x5) := (hb9.cell (p := ⟨v3.heap.size, 5, none⟩) (by first | omega | (simp [ext_size]; try omega))).trans (by (simp (maxDischargeDepth := 8) [go_sem, World.cell?_alloc_past, ltk2, ltk3, ltk4, ltk5, ltk6, ltk7, ltk8, ltk9, *]))
  have cc9_6 : v9.cell? ⟨v5.heap.size, 0, none⟩ = some (.int .i64 u0) := (hb9.cell (p := ⟨v5.heap.size, 0, none⟩) (by first | omega | (simp [ext_size]; try omega))).trans (by (simp (maxDischargeDepth := 8) [go_sem, World.cell?_alloc_past, ltk2, ltk3, ltk4, ltk5, ltk6, ltk7, ltk8, ltk9, *]))
  have cc9_7 : v9.cell? ⟨v5.heap.size, 1, none⟩ = some (.int .i64 u1) := (hb9.cell (p := ⟨v5.heap.size, 1, none⟩) (by first | omega | (simp [ext_size]; try omega))).trans (by (simp (maxDischargeDepth := 8) [go_sem, World.cell?_alloc_past, ltk2, ltk3, ltk4, ltk5, ltk6, ltk7, ltk8, ltk9, *]))
  have cc9_8 : v9.cell? ⟨v5.heap.size, 2, none⟩ = some (.int .i64 u2) := (hb9.cell (p := ⟨v5.heap.size, 2, none⟩) (by first | omega | (simp [ext_size]; try omega))).trans (by (simp (maxDischargeDepth := 8) [go_sem, World.cell?_alloc_past, ltk2, ltk3, ltk4, ltk5, ltk6, ltk7, ltk8, ltk9, *]))
  have cc9_9 : v9.cell? ⟨v5.heap.size, 3, none⟩ = some (.int .i64 u3) := (hb9.cell (p := ⟨v5.heap.size, 3, none⟩) (by first | omega | (simp [ext_size]; try omega))).trans (by (simp (maxDischargeDepth := 8) [go_sem, World.cell?_alloc_past, ltk2, ltk3, ltk4, ltk5, ltk6, ltk7, ltk8, ltk9, *]))
  have cc9_10 : v9.cell? ⟨v5.heap.size, 4, none⟩ = some (.int .i64 u4) := (hb9.cell (p := ⟨v5.heap.size, 4, none⟩) (by first | omega | (simp [ext_size]; try omega))).trans (by (simp (maxDischargeDepth := 8) [go_sem, World.cell?_alloc_past, ltk2, ltk3, ltk4, ltk5, ltk6, ltk7, ltk8, ltk9, *]))
  have cc9_11 : v9.cell? ⟨v5.heap.size, 5, none⟩ = some (.int .i64 u5) := (hb9.cell (p := ⟨v5.heap.size, 5, none⟩) (by first | omega | (simp [ext_size]; try omega))).trans (by (simp (maxDischargeDepth := 8) [go_sem, World.cell?_alloc_past, ltk2, ltk3, ltk4, ltk5, ltk6, ltk7, ltk8, ltk9, *]))
  have cc9_12 : v9.cell? ⟨v8.heap.size, 0, none⟩ = some (.int .i64 r0) := (hb9.cell (p := ⟨v8.heap.size, 0, none⟩) (by first | omega | (simp [ext_size]; try omega))).trans (by (simp (maxDischargeDepth := 8) [go_sem, World.cell?_alloc_past, ltk2, ltk3, ltk4, ltk5, ltk6, ltk7, ltk8, ltk9, *]))
  have cc9_13 : v9.cell? ⟨v8.heap.size, 1, none⟩ = some (.int .i64 r1) := (hb9.cell (p := ⟨v8.heap.size, 1, none⟩) (by first | omega | (simp [ext_size]; try omega))).trans (by (simp (maxDischargeDepth := 8) [go_sem, World.cell?_alloc_past, ltk2, ltk3, ltk4, ltk5, ltk6, ltk7, ltk8, ltk9, *]))
  have zl9_0 : v3.heap.size < v9.heap.size := by omega
  have zl9_1 : v5.heap.size < v9.heap.size := by omega
  have zl9_2 : v8.heap.size < v9.heap.size := by omega
  have hB9 : Below w.heap.size w v9 := Below.trans (by (repeat (first | with_reducible exact hB8 | (with_reducible refine bext ?_ _ _) | (with_reducible refine below_drewN ?_ _) | (with_reducible refine Below.drew ?_) | (with_reducible refine bal ?_ _) | (with_reducible refine bset ?_ (by first | omega | (simp <;> omega)) _)))) (hb9.mono (by first | omega | (simp [ext_size]; try omega)))
  have zw9 := hB9.size
  clear hb9
  clear cc8_0 cc8_1 cc8_2 cc8_3 cc8_4 cc8_5 cc8_6 cc8_7 cc8_8 cc8_9 cc8_10 cc8_11 cc8_12 cc8_13 cc8_14 cc8_15 zl8_0 zl8_1 zl8_2 zl8_3 zz8 zw8 hB8
  by_cases eG : G = 0
  · subst eG
    by_cases eP : P = 0
    · subst eP
      by_cases eQ : Q = 0
      · subst eQ
        by_cases eJ : J = 0
        · subst eJ
          by_cases eK : K = 0
          · subst eK
            have CM := HCM.out rfl rfl rfl rfl rfl
            go_wp2_with fail
            with_reducible refine (CM _).mono ?_
            rintro e v10 ⟨rfl, hb10⟩
            have zz10 := hb10.size
            try simp [ext_size] at zz10
            have hB10 : Below w.heap.size w v10 := Below.trans (by (repeat (first | with_reducible exact hB9 | (with_reducible refine bext ?_ _ _) | (with_reducible refine below_drewN ?_ _) | (with_reducible refine Below.drew ?_) | (with_reducible refine bal ?_ _) | (with_reducible refine bset ?_ (by first | omega | (simp <;> omega)) _)))) (hb10.mono (by first | omega | (simp [ext_size]; try omega)))
            have zw10 := hB10.size
            clear hb10
            go_wp2_with fail
            with_reducible refine (AL _).mono ?_
            rintro e v11 ⟨rfl, hb11⟩
            have zz11 := hb11.size
            try simp [ext_size] at zz11
            have hB11 : Below w.heap.size w v11 := Below.trans (by (repeat (first | with_reducible exact hB10 | (with_reducible refine bext ?_ _ _) | (with_reducible refine below_drewN ?_ _) | (with_reducible refine Below.drew ?_) | (with_reducible refine bal ?_ _) | (with_reducible refine bset ?_ (by first | omega | (simp <;> omega)) _)))) (hb11.mono (by first | omega | (simp [ext_size]; try omega)))
            have zw11 := hB11.size
            clear hb11
            clear zz10 zw10 hB10
            go_wp2
            go_ret
            exact ⟨rfl, by (repeat (first | with_reducible exact hB11 | (with_reducible refine bext ?_ _ _) | (with_reducible refine below_drewN ?_ _) | (with_reducible refine Below.drew ?_) | (with_reducible refine bal ?_ _) | (with_reducible refine bset ?_ (by first | omega | (simp <;> omega)) _)))⟩
          · have kK : (K != 0) = true := by simp [eK]
            clear eK HCM
            go_wp2_with fail
            with_reducible refine (AL _).mono ?_
            rintro e v12 ⟨rfl, hb12⟩
            have zz12 := hb12.size
            try simp [ext_size] at zz12
            have hB12 : Below w.heap.size w v12 := Below.trans (by (repeat (first | with_reducible exact hB9 | (with_reducible refine bext ?_ _ _) | (with_reducible refine below_drewN ?_ _) | (with_reducible refine Below.drew ?_) | (with_reducible refine bal ?_ _) | (with_reducible refine bset ?_ (by first | omega | (simp <;> omega)) _)))) (hb12.mono (by first | omega | (simp [ext_size]; try omega)))
            have zw12 := hB12.size
            clear hb12
            go_wp2
            go_ret
            exact ⟨rfl, by (repeat (first | with_reducible exact hB12 | (with_reducible refine bext ?_ _ _) | (with_reducible refine below_drewN ?_ _) | (with_reducible refine Below.drew ?_) | (with_reducible refine bal ?_ _) | (with_reducible refine bset ?_ (by first | omega | (simp <;> omega)) _)))⟩
        · have kJ : (J != 0) = true := by simp [eJ]
          clear eJ HCM
          go_wp2_with fail
          with_reducible refine (AL _).mono ?_
          rintro e v13 ⟨rfl, hb13⟩
          have zz13 := hb13.size
          try simp [ext_size] at zz13
          have hB13 : Below w.heap.size w v13 := Below.trans (by (repeat (first | with_reducible exact hB9 | (with_reducible refine bext ?_ _ _) | (with_reducible refine below_drewN ?_ _) | (with_reducible refine Below.drew ?_) | (with_reducible refine bal ?_ _) | (with_reducible refine bset ?_ (by first | omega | (simp <;> omega)) _)))) (hb13.mono (by first | omega | (simp [ext_size]; try omega)))
          have zw13 := hB13.size
          clear hb13
          go_wp2
          go_ret
          exact ⟨rfl, by (repeat (first | with_reducible exact hB13 | (with_reducible refine bext ?_ _ _) | (with_reducible refine below_drewN ?_ _) | (with_reducible refine Below.drew ?_) | (with_reducible refine bal ?_ _) | (with_reducible refine bset ?_ (by first | omega | (simp <;> omega)) _)))⟩
      · have kQ : (Q != 0) = true := by simp [eQ]
        clear eQ HCM
        go_wp2_with fail
        with_reducible refine (AL _).mono ?_
        rintro e v14 ⟨rfl, hb14⟩
        have zz14 := hb14.size
        try simp [ext_size] at zz14
        have hB14 : Below w.heap.size w v14 := Below.trans (by (repeat (first | with_reducible exact hB9 | (with_reducible refine bext ?_ _ _) | (with_reducible refine below_drewN ?_ _) | (with_reducible refine Below.drew ?_) | (with_reducible refine bal ?_ _) | (with_reducible refine bset ?_ (by first | omega | (simp <;> omega)) _)))) (hb14.mono (by first | omega | (simp [ext_size]; try omega)))
        have zw14 := hB14.size
        clear hb14
        go_wp2
        go_ret
        exact ⟨rfl, by (repeat (first | with_reducible exact hB14 | (with_reducible refine bext ?_ _ _) | (with_reducible refine below_drewN ?_ _) | (with_reducible refine Below.drew ?_) | (with_reducible refine bal ?_ _) | (with_reducible refine bset ?_ (by first | omega | (simp <;> omega)) _)))⟩
    · have kP : (P != 0) = true := by simp [eP]
      clear eP HCM
      go_wp2_with fail
      with_reducible refine (AL _).mono ?_
      rintro e v15 ⟨rfl, hb15⟩
      have zz15 := hb15.size
      try simp [ext_size] at zz15
      have hB15 : Below w.heap.size w v15 := Below.trans (by (repeat (first | with_reducible exact hB9 | (with_reducible refine bext ?_ _ _) | (with_reducible refine below_drewN ?_ _) | (with_reducible refine Below.drew ?_) | (with_reducible refine bal ?_ _) | (with_reducible refine bset ?_ (by first | omega | (simp <;> omega)) _)))) (hb15.mono (by first | omega | (simp [ext_size]; try omega)))
      have zw15 := hB15.size
      clear hb15
      go_wp2
      go_ret
      exact ⟨rfl, by (repeat (first | with_reducible exact hB15 | (with_reducible refine bext ?_ _ _) | (with_reducible refine below_drewN ?_ _) | (with_reducible refine Below.drew ?_) | (with_reducible refine bal ?_ _) | (with_reducible refine bset ?_ (by first | omega | (simp <;> omega)) _)))⟩
  · have kG : (G != 0) = true := by simp [eG]
    clear eG HCM
    go_wp2_with fail
    with_reducible refine (AL _).mono ?_
    rintro e v16 ⟨rfl, hb16⟩
    have zz16 := hb16.size
    try simp [ext_size] at zz16
    have hB16 : Below w.heap.size w v16 := Below.trans (by (repeat (first | with_reducible exact hB9 | (with_reducible refine bext ?_ _ _) | (with_reducible refine below_drewN ?_ _) | (with_reducible refine Below.drew ?_) | (with_reducible refine bal ?_ _) | (with_reducible refine bset ?_ (by first | omega | (simp <;> omega)) _)))) (hb16.mono (by first | omega | (simp [ext_size]; try omega)))
    have zw16 := hB16.size
    clear hb16
    go_wp2
    go_ret
    exact ⟨rfl, by (repeat (first | with_reducible exact hB16 | (with_reducible refine bext ?_ _ _) | (with_reducible refine below_drewN ?_ _) | (with_reducible refine Below.drew ?_) | (with_reducible refine bal ?_ _) | (with_reducible refine bset ?_ (by first | omega | (simp <;> omega)) _)))⟩

theorem along6_main (s : ByteArray) (ra dec tk g h i j k l g' h' i' j' k' l' : Int) (p1 : okC g h) (p2 : okC i j) (p3 : okC k l) (q1 : okC g' h') (q2 : okC i' j') (q3 : okC k' l') (w : World) :
    Calls Try.prog 7 #[.agg #[.string s, .int .i64 ra, .int .i64 dec], .int .i64 tk, .agg #[.int .i64 g, .int .i64 h, .int .i64 i, .int .i64 j, .int .i64 k, .int .i64 l], .agg #[.int .i64 (g'), .int .i64 (h'), .int .i64 (i'), .int .i64 (j'), .int .i64 (k'), .int .i64 (l')]] w fun x w' => x = .returned (.bool true) ∧ Below w.heap.size w w' := by
  have AL := fun w => law6_alive w
  have A1 := fun w => law6_fit s ra dec tk w
  have A2 := fun w => ref2_Both g h i j k l g' h' i' j' k' l' p1 p2 p3 q1 q2 q3 w
  by_cases hf : ftB s ra dec tk = true
  · rw [hf] at A1
    by_cases hv : okV g h i j k l = true
    · rw [if_pos hv] at A2
      by_cases hu : okV g' h' i' j' k' l' = true
      · rw [chV, if_pos hu] at A2
        obtain ⟨_, h1, t1, t2⟩ := ftB_out2 hf
        obtain ⟨_, _, u1, u2⟩ := d_unit dec (ra - tk)
        have u3 := (c_unit dec).2
        have sv : spV (dxL dec (ra - tk)) (dxH dec (ra - tk)) = true ∧ spV (dyL dec (ra - tk)) (dyH dec (ra - tk)) = true ∧ spV (sL dec) (sH dec) = true :=
          ⟨sp_of u1.1 (by have := u1.2.1; omega) (by have := u1.2.2; omega), sp_of u2.1 (by have := u2.2.1; omega) (by have := u2.2.2; omega), sp_of u3.1 (by have := u3.2.1; omega) (by have := u3.2.2; omega)⟩
        have A3 := fun w => track_At_ok s ra dec tk h1 (tk_in2 t1 t2) w
        have c0 : okC 0 1 := by unfold okC; omega
        have c1 : okC 1 1 := by unfold okC; omega
        have A4 := fun w => track_AlongV _ _ _ _ _ _ 0 1 0 1 1 1 sv c0 c0 c1 (by decide +kernel) w
        rw [along_z u1 u2 u3] at A4
        have A5 := fun w => vec_Add g h i j k l g' h' i' j' k' l' p1 p2 p3 q1 q2 q3 w
        have A6 := fun w => track_AlongV _ _ _ _ _ _ g h i j k l sv p1 p2 p3 hv w
        have A7 := fun w => track_AlongV _ _ _ _ _ _ g' h' i' j' k' l' sv q1 q2 q3 hu w
        by_cases hG : vaE g h i j k l g' h' i' j' k' l' = 0
        · have hg : adE g h g' h' = 0 ∧ adE i j i' j' = 0 ∧ adE k l k' l' = 0 := by
            rw [vaE, if_pos ⟨hv, hu⟩] at hG
            unfold fsI at hG
            split at hG
            · split at hG
              · exact ⟨by assumption, by assumption, hG⟩
              · exact absurd hG (by assumption)
            · exact absurd hG (by assumption)
          obtain ⟨o1, o2, o3⟩ : okF g h = true ∧ okF i j = true ∧ okF k l = true := by simpa [okV] using hv
          obtain ⟨o4, o5, o6⟩ : okF g' h' = true ∧ okF i' j' = true ∧ okF k' l' = true := by simpa [okV] using hu
          have f1 := ad_okF o1 o4 hg.1
          have f2 := ad_okF o2 o5 hg.2.1
          have f3 := ad_okF o3 o6 hg.2.2
          rw [hG] at A5
          simp only [vz0] at A5
          have A9 := fun w => track_AlongV _ _ _ _ _ _ _ _ _ _ _ _ sv (okC_fr6 f1) (okC_fr6 f2) (okC_fr6 f3) (by simp [okV, f1, f2, f3]) w
          refine along6_walk s ra dec tk g h i j k l g' h' i' j' k' l' _ _ _ _ _ _ _ _ _ _ _ _ _ _ _ _ _ _ _ _ _ _ _ _ _ AL A1 A2 A3 A4 A5 A6 A7 (fun w => ref5_Add _ _ _ _ w) A9 ?_ w
          intro _ e1 e2 e3 e4 w
          obtain ⟨m1, m2⟩ := sa_out e3
          obtain ⟨k1, k2⟩ := along_common u1.1 u2.1 u3.1 hg e1 e2 e4
          rw [m1, m2]
          exact ref6_CommonT ⟨k1, k2⟩ w
        · have A9 := fun w => track_Along_2 (dxL dec (ra - tk)) (dxH dec (ra - tk)) (dyL dec (ra - tk)) (dyH dec (ra - tk)) (sL dec) (sH dec) 0 0 0 0 0 0 0 0 0 0 0 0 0 0 0 0 sv (fun w => vec_Check 0 0 0 0 0 0 (by unfold okC; omega) (by unfold okC; omega) (by unfold okC; omega) w) w
          have z : ∀ x : Int, vz (vaE g h i j k l g' h' i' j' k' l') x = 0 := fun x => if_neg hG
          simp only [z] at A5
          exact along6_walk s ra dec tk g h i j k l g' h' i' j' k' l' _ _ _ _ _ _ _ _ _ _ _ _ _ _ _ _ _ _ _ _ _ _ _ _ _ AL A1 A2 A3 A4 A5 A6 A7 (fun w => ref5_Add _ _ _ _ w) A9 (fun e => absurd e hG) w
      · rw [chV, if_neg hu] at A2
        exact along6_out2 s ra dec tk g h i j k l g' h' i' j' k' l' 8 (by decide) AL A1 A2 w
    · rw [if_neg hv] at A2
      exact along6_out2 s ra dec tk g h i j k l g' h' i' j' k' l' 8 (by decide) AL A1 A2 w
  · rw [show ftB s ra dec tk = false by simpa using hf] at A1
    exact along6_out1 s ra dec tk g h i j k l g' h' i' j' k' l' AL A1 w
theorem along6 (s : ByteArray) (ra dec tk g h i j k l g' h' i' j' k' l' : Int) (p1 : (Lit.int .i64 g).wf = true ∧ (Lit.int .i64 h).wf = true) (p2 : (Lit.int .i64 i).wf = true ∧ (Lit.int .i64 j).wf = true) (p3 : (Lit.int .i64 k).wf = true ∧ (Lit.int .i64 l).wf = true) (q1 : (Lit.int .i64 g').wf = true ∧ (Lit.int .i64 h').wf = true) (q2 : (Lit.int .i64 i').wf = true ∧ (Lit.int .i64 j').wf = true) (q3 : (Lit.int .i64 k').wf = true ∧ (Lit.int .i64 l').wf = true) (w : World) :
    Calls Try.prog 7 #[.agg #[.string s, .int .i64 ra, .int .i64 dec], .int .i64 tk, .agg #[.int .i64 g, .int .i64 h, .int .i64 i, .int .i64 j, .int .i64 k, .int .i64 l], .agg #[.int .i64 (g'), .int .i64 (h'), .int .i64 (i'), .int .i64 (j'), .int .i64 (k'), .int .i64 (l')]] w fun x w' => x = .returned (.bool true) ∧ Below w.heap.size w w' :=
  along6_main s ra dec tk g h i j k l g' h' i' j' k' l' (wf_okC p1) (wf_okC p2) (wf_okC p3) (wf_okC q1) (wf_okC q2) (wf_okC q3) w
end Go.Proofs.Ytmjbeplcabomdaa
