/-
  P2.1: Add, Sub and Scale of package vec.
-/
import Derived.Test.YtbckjccbihnlnaaVh
import Derived.Test.YtbckjccbihnlnaaVe
namespace Go.Proofs.Ytbckjccbihnlnaa
open Go.RowKit
set_option linter.unusedVariables false
set_option linter.unusedSimpArgs false

set_option maxRecDepth 100000 in
set_option maxHeartbeats 1600000 in
theorem vec_Add (a b c d e f g h i j k l : Int) (p1 : okC a b) (p2 : okC c d) (p3 : okC e f) (q1 : okC g h) (q2 : okC i j) (q3 : okC k l) (w : World) :
    Calls Try.prog 28 #[.agg #[.int .i64 a, .int .i64 b, .int .i64 c, .int .i64 d, .int .i64 e, .int .i64 f], .agg #[.int .i64 g, .int .i64 h, .int .i64 i, .int .i64 j, .int .i64 k, .int .i64 l]] w fun x w' => x = .returned (.tuple #[.agg #[.int .i64 (vz (vaE a b c d e f g h i j k l) (adN a b g h)), .int .i64 (vz (vaE a b c d e f g h i j k l) (adD a b g h)), .int .i64 (vz (vaE a b c d e f g h i j k l) (adN c d i j)), .int .i64 (vz (vaE a b c d e f g h i j k l) (adD c d i j)), .int .i64 (vz (vaE a b c d e f g h i j k l) (adN e f k l)), .int .i64 (vz (vaE a b c d e f g h i j k l) (adD e f k l))], .int .i64 (vaE a b c d e f g h i j k l)]) ∧ Below w.heap.size w w' := by
  have AA := fun w => combine_ok 21 a b c d e f g h i j k l _ _ _ _ _ _ _ _ _ (fun gd ga gb w h1 h2 h3 h4 h5 h6 h7 h8 => comb_add 0 gd ga gb a b g h _ _ _ (by omega) w h1 h2 h3 h4 h5 h6 h7 h8 (fun w => frac_Add a b g h p1.1 p1.2.1 p1.2.2.1 p1.2.2.2 q1.1 q1.2.1 q1.2.2.1 q1.2.2.2 w)) (fun gd ga gb w h1 h2 h3 h4 h5 h6 h7 h8 => comb_add 1 gd ga gb c d i j _ _ _ (by omega) w h1 h2 h3 h4 h5 h6 h7 h8 (fun w => frac_Add c d i j p2.1 p2.2.1 p2.2.2.1 p2.2.2.2 q2.1 q2.2.1 q2.2.2.1 q2.2.2.2 w)) (fun gd ga gb w h1 h2 h3 h4 h5 h6 h7 h8 => comb_add 2 gd ga gb e f k l _ _ _ (by omega) w h1 h2 h3 h4 h5 h6 h7 h8 (fun w => frac_Add e f k l p3.1 p3.2.1 p3.2.2.1 p3.2.2.2 q3.1 q3.2.1 q3.2.2.1 q3.2.2.2 w)) p1 p2 p3 q1 q2 q3 w
  change ∀ w, Calls Try.prog 82 #[.func (.func 21) #[] #[], .agg #[.int .i64 a, .int .i64 b, .int .i64 c, .int .i64 d, .int .i64 e, .int .i64 f], .agg #[.int .i64 g, .int .i64 h, .int .i64 i, .int .i64 j, .int .i64 k, .int .i64 l]] w fun rr w' => rr = .returned (.tuple #[.agg #[.int .i64 (vz (vaE a b c d e f g h i j k l) (adN a b g h)), .int .i64 (vz (vaE a b c d e f g h i j k l) (adD a b g h)), .int .i64 (vz (vaE a b c d e f g h i j k l) (adN c d i j)), .int .i64 (vz (vaE a b c d e f g h i j k l) (adD c d i j)), .int .i64 (vz (vaE a b c d e f g h i j k l) (adN e f k l)), .int .i64 (vz (vaE a b c d e f g h i j k l) (adD e f k l))], .int .i64 (vaE a b c d e f g h i j k l)]) ∧ Below w.heap.size w w' at AA
  clear p1 p2 p3 q1 q2 q3
  generalize vz (vaE a b c d e f g h i j k l) (adN a b g h) = X0 at *
  generalize vz (vaE a b c d e f g h i j k l) (adD a b g h) = X1 at *
  generalize vz (vaE a b c d e f g h i j k l) (adN c d i j) = X2 at *
  generalize vz (vaE a b c d e f g h i j k l) (adD c d i j) = X3 at *
  generalize vz (vaE a b c d e f g h i j k l) (adN e f k l) = X4 at *
  generalize vz (vaE a b c d e f g h i j k l) (adD e f k l) = X5 at *
  generalize vaE a b c d e f g h i j k l = E at *
  have dAl := dAl; have dSt := dSt; have xC := ext_cell; have xF := ext_frozen; have xS := ext_set; have xN := ext_drewN; have xD := ext_drew; have xL := ext_lt; have xE := ext_ne; have xG := ext_nr; have xX := ext_ext; have xL1 := ext_lt1; have xL2 := ext_lt2; have xL3 := ext_lt3; have xM0 := ext_le0; have xM1 := ext_le1; have xM2 := ext_le2
  go_enter Try.func28, Try.ntmps28
  go_wp2_with fail
  refine (AA _).mono ?_
  rintro e w1c ⟨rfl, hb1c⟩
  obtain ⟨l1c, d1c, rfl⟩ := toExt hb1c
  clear hb1c
  clear AA
  go_wp2
  refine bodyPost_ret (by simp [results, Try.results28, go_sem, ext_cell, World.cell?_alloc_past, ltk2, ltk3, ltk4, ltk5, ltk6, ltk7, ltk8, ltk9, *]; try rfl) rfl ?_
  exact ⟨rfl, by (repeat (first | with_reducible exact b0 _ | (with_reducible refine bext ?_ _ _) | (with_reducible refine below_drewN ?_ _) | (with_reducible refine Below.drew ?_) | (with_reducible refine bal ?_ _) | (with_reducible refine bset ?_ (by first | omega | (simp <;> omega)) _)))⟩

theorem okV_negE (a b c d e f : Int) : okV (-a) b (-c) d (-e) f = okV a b c d e f := by
  unfold okV; rw [okF_neg1, okF_neg1, okF_neg1]

set_option maxRecDepth 100000 in
set_option maxHeartbeats 1600000 in
theorem vec_Sub (a b c d e f g h i j k l : Int) (p1 : okC a b) (p2 : okC c d) (p3 : okC e f) (q1 : okC g h) (q2 : okC i j) (q3 : okC k l) (w : World) :
    Calls Try.prog 30 #[.agg #[.int .i64 a, .int .i64 b, .int .i64 c, .int .i64 d, .int .i64 e, .int .i64 f], .agg #[.int .i64 g, .int .i64 h, .int .i64 i, .int .i64 j, .int .i64 k, .int .i64 l]] w fun x w' => x = .returned (.tuple #[.agg #[.int .i64 (vz (vaE a b c d e f (-g) h (-i) j (-k) l) (adN a b (-g) h)), .int .i64 (vz (vaE a b c d e f (-g) h (-i) j (-k) l) (adD a b (-g) h)), .int .i64 (vz (vaE a b c d e f (-g) h (-i) j (-k) l) (adN c d (-i) j)), .int .i64 (vz (vaE a b c d e f (-g) h (-i) j (-k) l) (adD c d (-i) j)), .int .i64 (vz (vaE a b c d e f (-g) h (-i) j (-k) l) (adN e f (-k) l)), .int .i64 (vz (vaE a b c d e f (-g) h (-i) j (-k) l) (adD e f (-k) l))], .int .i64 (vaE a b c d e f (-g) h (-i) j (-k) l)]) ∧ Below w.heap.size w w' := by
  have AA := fun w => combine_ok 22 a b c d e f g h i j k l _ _ _ _ _ _ _ _ _ (fun gd ga gb w h1 h2 h3 h4 h5 h6 h7 h8 => comb_sub 0 gd ga gb a b g h _ _ _ (by omega) w h1 h2 h3 h4 h5 h6 h7 h8 (fun w => frac_Sub a b g h p1.1 p1.2.1 p1.2.2.1 p1.2.2.2 q1.1 q1.2.1 q1.2.2.1 q1.2.2.2 w)) (fun gd ga gb w h1 h2 h3 h4 h5 h6 h7 h8 => comb_sub 1 gd ga gb c d i j _ _ _ (by omega) w h1 h2 h3 h4 h5 h6 h7 h8 (fun w => frac_Sub c d i j p2.1 p2.2.1 p2.2.2.1 p2.2.2.2 q2.1 q2.2.1 q2.2.2.1 q2.2.2.2 w)) (fun gd ga gb w h1 h2 h3 h4 h5 h6 h7 h8 => comb_sub 2 gd ga gb e f k l _ _ _ (by omega) w h1 h2 h3 h4 h5 h6 h7 h8 (fun w => frac_Sub e f k l p3.1 p3.2.1 p3.2.2.1 p3.2.2.2 q3.1 q3.2.1 q3.2.2.1 q3.2.2.2 w)) p1 p2 p3 q1 q2 q3 w
  have hE : vaE a b c d e f (-g) h (-i) j (-k) l = (if okV a b c d e f = true ∧ okV g h i j k l = true then fsI (adE a b (-g) h) (adE c d (-i) j) (adE e f (-k) l) else 8) := by unfold vaE; rw [okV_negE]
  simp only [← hE] at AA
  clear hE p1 p2 p3 q1 q2 q3
  generalize vz (vaE a b c d e f (-g) h (-i) j (-k) l) (adN a b (-g) h) = X0 at *
  generalize vz (vaE a b c d e f (-g) h (-i) j (-k) l) (adD a b (-g) h) = X1 at *
  generalize vz (vaE a b c d e f (-g) h (-i) j (-k) l) (adN c d (-i) j) = X2 at *
  generalize vz (vaE a b c d e f (-g) h (-i) j (-k) l) (adD c d (-i) j) = X3 at *
  generalize vz (vaE a b c d e f (-g) h (-i) j (-k) l) (adN e f (-k) l) = X4 at *
  generalize vz (vaE a b c d e f (-g) h (-i) j (-k) l) (adD e f (-k) l) = X5 at *
  generalize vaE a b c d e f (-g) h (-i) j (-k) l = E at *
  have dAl := dAl; have dSt := dSt; have xC := ext_cell; have xF := ext_frozen; have xS := ext_set; have xN := ext_drewN; have xD := ext_drew; have xL := ext_lt; have xE := ext_ne; have xG := ext_nr; have xX := ext_ext; have xL1 := ext_lt1; have xL2 := ext_lt2; have xL3 := ext_lt3; have xM0 := ext_le0; have xM1 := ext_le1; have xM2 := ext_le2
  go_enter Try.func30, Try.ntmps30
  go_wp2_with fail
  refine (AA _).mono ?_
  rintro e w2c ⟨rfl, hb2c⟩
  obtain ⟨l2c, d2c, rfl⟩ := toExt hb2c
  clear hb2c
  clear AA
  go_wp2
  refine bodyPost_ret (by simp [results, Try.results30, go_sem, ext_cell, World.cell?_alloc_past, ltk2, ltk3, ltk4, ltk5, ltk6, ltk7, ltk8, ltk9, *]; try rfl) rfl ?_
  exact ⟨rfl, by (repeat (first | with_reducible exact b0 _ | (with_reducible refine bext ?_ _ _) | (with_reducible refine below_drewN ?_ _) | (with_reducible refine Below.drew ?_) | (with_reducible refine bal ?_ _) | (with_reducible refine bset ?_ (by first | omega | (simp <;> omega)) _)))⟩

theorem okV_same (a b : Int) : okV a b a b a b = okF a b := by
  unfold okV; cases okF a b <;> rfl

set_option maxRecDepth 100000 in
set_option maxHeartbeats 1600000 in
theorem vec_Scale (a b c d e f g h : Int) (p1 : okC a b) (p2 : okC c d) (p3 : okC e f) (q1 : okC g h) (w : World) :
    Calls Try.prog 32 #[.agg #[.int .i64 a, .int .i64 b, .int .i64 c, .int .i64 d, .int .i64 e, .int .i64 f], .agg #[.int .i64 g, .int .i64 h]] w fun x w' => x = .returned (.tuple #[.agg #[.int .i64 (vz (vmE a b c d e f g h) (muN a b g h)), .int .i64 (vz (vmE a b c d e f g h) (muD a b g h)), .int .i64 (vz (vmE a b c d e f g h) (muN c d g h)), .int .i64 (vz (vmE a b c d e f g h) (muD c d g h)), .int .i64 (vz (vmE a b c d e f g h) (muN e f g h)), .int .i64 (vz (vmE a b c d e f g h) (muD e f g h))], .int .i64 (vmE a b c d e f g h)]) ∧ Below w.heap.size w w' := by
  have AA := fun w => combine_ok 13 a b c d e f g h g h g h _ _ _ _ _ _ _ _ _ (fun gd ga gb w h1 h2 h3 h4 h5 h6 h7 h8 => comb_mul 0 gd ga gb a b g h _ _ _ (by omega) w h1 h2 h3 h4 h5 h6 h7 h8 (fun w => frac_Mul a b g h p1.1 p1.2.1 p1.2.2.1 p1.2.2.2 q1.1 q1.2.1 q1.2.2.1 q1.2.2.2 w)) (fun gd ga gb w h1 h2 h3 h4 h5 h6 h7 h8 => comb_mul 1 gd ga gb c d g h _ _ _ (by omega) w h1 h2 h3 h4 h5 h6 h7 h8 (fun w => frac_Mul c d g h p2.1 p2.2.1 p2.2.2.1 p2.2.2.2 q1.1 q1.2.1 q1.2.2.1 q1.2.2.2 w)) (fun gd ga gb w h1 h2 h3 h4 h5 h6 h7 h8 => comb_mul 2 gd ga gb e f g h _ _ _ (by omega) w h1 h2 h3 h4 h5 h6 h7 h8 (fun w => frac_Mul e f g h p3.1 p3.2.1 p3.2.2.1 p3.2.2.2 q1.1 q1.2.1 q1.2.2.1 q1.2.2.2 w)) p1 p2 p3 q1 q1 q1 w
  have hE : vmE a b c d e f g h = (if okV a b c d e f = true ∧ okV g h g h g h = true then fsI (muE a b g h) (muE c d g h) (muE e f g h) else 8) := by unfold vmE; rw [okV_same]
  simp only [← hE] at AA
  clear hE p1 p2 p3 q1
  generalize vz (vmE a b c d e f g h) (muN a b g h) = X0 at *
  generalize vz (vmE a b c d e f g h) (muD a b g h) = X1 at *
  generalize vz (vmE a b c d e f g h) (muN c d g h) = X2 at *
  generalize vz (vmE a b c d e f g h) (muD c d g h) = X3 at *
  generalize vz (vmE a b c d e f g h) (muN e f g h) = X4 at *
  generalize vz (vmE a b c d e f g h) (muD e f g h) = X5 at *
  generalize vmE a b c d e f g h = E at *
  have dAl := dAl; have dSt := dSt; have xC := ext_cell; have xF := ext_frozen; have xS := ext_set; have xN := ext_drewN; have xD := ext_drew; have xL := ext_lt; have xE := ext_ne; have xG := ext_nr; have xX := ext_ext; have xL1 := ext_lt1; have xL2 := ext_lt2; have xL3 := ext_lt3; have xM0 := ext_le0; have xM1 := ext_le1; have xM2 := ext_le2
  go_enter Try.func32, Try.ntmps32
  go_wp2_with fail
  refine (AA _).mono ?_
  rintro e w3c ⟨rfl, hb3c⟩
  obtain ⟨l3c, d3c, rfl⟩ := toExt hb3c
  clear hb3c
  clear AA
  go_wp2
  refine bodyPost_ret (by simp [results, Try.results32, go_sem, ext_cell, World.cell?_alloc_past, ltk2, ltk3, ltk4, ltk5, ltk6, ltk7, ltk8, ltk9, *]; try rfl) rfl ?_
  exact ⟨rfl, by (repeat (first | with_reducible exact b0 _ | (with_reducible refine bext ?_ _ _) | (with_reducible refine below_drewN ?_ _) | (with_reducible refine Below.drew ?_) | (with_reducible refine bal ?_ _) | (with_reducible refine bset ?_ (by first | omega | (simp <;> omega)) _)))⟩

end Go.Proofs.Ytbckjccbihnlnaa
