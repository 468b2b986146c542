/-
  Package vec: dot products of rows; the closure of cross.
-/
import Derived.Test.YtbckjccbihnlnaaVs
import Derived.Test.YtbckjccbihnlnaaVn
import Derived.Deep.RegionHeld3
namespace Go.Proofs.Ytbckjccbihnlnaa
open Go.RowKit
set_option linter.unusedVariables false
set_option linter.unusedSimpArgs false

theorem sum3_ok (a b c d e f g h i j k l : Int) (o1 : okF a b = true) (o2 : okF c d = true) (o3 : okF e f = true) (o4 : okF g h = true) (o5 : okF i j = true) (o6 : okF k l = true) (gg cap : Nat) (w : World) (hg : gg < w.heap.size)
    (h0 : w.cell? ⟨gg, 0, none⟩ = some (.int .i64 a)) (h1 : w.cell? ⟨gg, 1, none⟩ = some (.int .i64 b)) (h2 : w.cell? ⟨gg, 2, none⟩ = some (.int .i64 g)) (h3 : w.cell? ⟨gg, 3, none⟩ = some (.int .i64 h)) (h4 : w.cell? ⟨gg, 4, none⟩ = some (.int .i64 c)) (h5 : w.cell? ⟨gg, 5, none⟩ = some (.int .i64 d)) (h6 : w.cell? ⟨gg, 6, none⟩ = some (.int .i64 i)) (h7 : w.cell? ⟨gg, 7, none⟩ = some (.int .i64 j)) (h8 : w.cell? ⟨gg, 8, none⟩ = some (.int .i64 e)) (h9 : w.cell? ⟨gg, 9, none⟩ = some (.int .i64 f)) (h10 : w.cell? ⟨gg, 10, none⟩ = some (.int .i64 k)) (h11 : w.cell? ⟨gg, 11, none⟩ = some (.int .i64 l)) :
    Calls Try.prog 122 #[.slice (some ⟨gg, 0, none⟩) 3 cap] w fun x w' => x = .returned (.tuple #[.agg #[.int .i64 (doN a b c d e f g h i j k l), .int .i64 (doD a b c d e f g h i j k l)], .int .i64 (doE a b c d e f g h i j k l)]) ∧ Below w.heap.size w w' := by
  have p1 := okC_of o1
  have p2 := okC_of o2
  have p3 := okC_of o3
  have q1 := okC_of o4
  have q2 := okC_of o5
  have q3 := okC_of o6
  have m1 := mu_okC a b g h
  have m2 := mu_okC c d i j
  have m3 := mu_okC e f k l
  have s1 := ad_okC (muN a b g h) (muD a b g h) (muN c d i j) (muD c d i j)
  have := vec_sum3 gg cap a b g h c d i j e f k l _ _ _ _ _ _ _ _ _ _ _ _ _ _ _
    (fun w => frac_Mul a b g h p1.1 p1.2.1 p1.2.2.1 p1.2.2.2 q1.1 q1.2.1 q1.2.2.1 q1.2.2.2 w) (fun w => frac_Mul c d i j p2.1 p2.2.1 p2.2.2.1 p2.2.2.2 q2.1 q2.2.1 q2.2.2.1 q2.2.2.2 w) (fun w => frac_Mul e f k l p3.1 p3.2.1 p3.2.2.1 p3.2.2.2 q3.1 q3.2.1 q3.2.2.1 q3.2.2.2 w)
    (fun hz w => by
      have r := frac_Add 0 1 (muN a b g h) (muD a b g h) (by omega) (by omega) (by omega) (by omega) m1.1 m1.2.1 m1.2.2.1 m1.2.2.2 w
      obtain ⟨e1, e2, e3⟩ := ad_zero_left _ _ (mu_ok a b g h o1 o4 hz)
      rw [e1, e2, e3] at r; exact r)
    (fun w => frac_Add (muN a b g h) (muD a b g h) (muN c d i j) (muD c d i j) m1.1 m1.2.1 m1.2.2.1 m1.2.2.2 m2.1 m2.2.1 m2.2.2.1 m2.2.2.2 w)
    (fun w => frac_Add (adN (muN a b g h) (muD a b g h) (muN c d i j) (muD c d i j)) (adD (muN a b g h) (muD a b g h) (muN c d i j) (muD c d i j)) (muN e f k l) (muD e f k l) s1.1 s1.2.1 s1.2.2.1 s1.2.2.2 m3.1 m3.2.1 m3.2.2.1 m3.2.2.2 w)
    w hg h0 h1 h2 h3 h4 h5 h6 h7 h8 h9 h10 h11
  obtain ⟨e1, e2, e3⟩ := do_eq a b c d e f g h i j k l
  rw [e1, e2, e3] at this
  exact this
theorem sum2_ok (a b c d e f g h : Int) (o1 : okF a b = true) (o2 : okF c d = true) (o3 : okF e f = true) (o4 : okF g h = true) (gg cap : Nat) (w : World) (hg : gg < w.heap.size)
    (h0 : w.cell? ⟨gg, 0, none⟩ = some (.int .i64 a)) (h1 : w.cell? ⟨gg, 1, none⟩ = some (.int .i64 b)) (h2 : w.cell? ⟨gg, 2, none⟩ = some (.int .i64 c)) (h3 : w.cell? ⟨gg, 3, none⟩ = some (.int .i64 d)) (h4 : w.cell? ⟨gg, 4, none⟩ = some (.int .i64 e)) (h5 : w.cell? ⟨gg, 5, none⟩ = some (.int .i64 f)) (h6 : w.cell? ⟨gg, 6, none⟩ = some (.int .i64 g)) (h7 : w.cell? ⟨gg, 7, none⟩ = some (.int .i64 h)) :
    Calls Try.prog 122 #[.slice (some ⟨gg, 0, none⟩) 2 cap] w fun x w' => x = .returned (.tuple #[.agg #[.int .i64 (twN a b c d e f g h), .int .i64 (twD a b c d e f g h)], .int .i64 (twE a b c d e f g h)]) ∧ Below w.heap.size w w' := by
  have p1 := okC_of o1
  have p2 := okC_of o2
  have p3 := okC_of o3
  have q1 := okC_of o4
  have m1 := mu_okC a b c d
  have m2 := mu_okC e f g h
  have := vec_sum2 gg cap a b c d e f g h _ _ _ _ _ _ _ _ _
    (fun w => frac_Mul a b c d p1.1 p1.2.1 p1.2.2.1 p1.2.2.2 p2.1 p2.2.1 p2.2.2.1 p2.2.2.2 w) (fun w => frac_Mul e f g h p3.1 p3.2.1 p3.2.2.1 p3.2.2.2 q1.1 q1.2.1 q1.2.2.1 q1.2.2.2 w)
    (fun hz w => by
      have r := frac_Add 0 1 (muN a b c d) (muD a b c d) (by omega) (by omega) (by omega) (by omega) m1.1 m1.2.1 m1.2.2.1 m1.2.2.2 w
      obtain ⟨e1, e2, e3⟩ := ad_zero_left _ _ (mu_ok a b c d o1 o2 hz)
      rw [e1, e2, e3] at r; exact r)
    (fun w => frac_Add (muN a b c d) (muD a b c d) (muN e f g h) (muD e f g h) m1.1 m1.2.1 m1.2.2.1 m1.2.2.2 m2.1 m2.2.1 m2.2.2.1 m2.2.2.2 w)
    w hg h0 h1 h2 h3 h4 h5 h6 h7
  obtain ⟨e1, e2, e3⟩ := tw_eq a b c d e f g h
  rw [e1, e2, e3] at this
  exact this

set_option maxRecDepth 100000 in
set_option maxHeartbeats 1600000 in
theorem vec_dot (a b c d e f g h i j k l : Int) (o1 : okV a b c d e f = true) (o2 : okV g h i j k l = true) (w : World) :
    Calls Try.prog 88 #[.agg #[.int .i64 a, .int .i64 b, .int .i64 c, .int .i64 d, .int .i64 e, .int .i64 f], .agg #[.int .i64 g, .int .i64 h, .int .i64 i, .int .i64 j, .int .i64 k, .int .i64 l]] w fun x w' => x = .returned (.tuple #[.agg #[.int .i64 (doN a b c d e f g h i j k l), .int .i64 (doD a b c d e f g h i j k l)], .int .i64 (doE a b c d e f g h i j k l)]) ∧ Below w.heap.size w w' := by
  obtain ⟨p1, p2, p3⟩ := okV_in o1
  obtain ⟨q1, q2, q3⟩ := okV_in o2
  have SM := fun gg cap w hg => sum3_ok a b c d e f g h i j k l p1 p2 p3 q1 q2 q3 gg cap w hg
  clear p1 p2 p3 q1 q2 q3 o1 o2
  generalize doN a b c d e f g h i j k l = X1 at *
  generalize doD a b c d e f g h i j k l = X2 at *
  generalize doE a b c d e f g h i j k l = X3 at *
  have dAl := dAl; have dSt := dSt; have xC := ext_cell; have xF := ext_frozen; have xS := ext_set; have xN := ext_drewN; have xD := ext_drew; have xL := ext_lt; have xE := ext_ne; have xG := ext_nr; have xX := ext_ext; have xL1 := ext_lt1; have xL2 := ext_lt2; have xL3 := ext_lt3; have xM0 := ext_le0; have xM1 := ext_le1; have xM2 := ext_le2
  go_enter Try.func88, Try.ntmps88
  go_wp2_with fail
  with_reducible refine (SM _ _ _ (by simp) (by (simp (maxDischargeDepth := 8) [go_sem, World.cell?_alloc_past, ltk2, ltk3, ltk4, ltk5, ltk6, ltk7, ltk8, ltk9, *])) (by (simp (maxDischargeDepth := 8) [go_sem, World.cell?_alloc_past, ltk2, ltk3, ltk4, ltk5, ltk6, ltk7, ltk8, ltk9, *])) (by (simp (maxDischargeDepth := 8) [go_sem, World.cell?_alloc_past, ltk2, ltk3, ltk4, ltk5, ltk6, ltk7, ltk8, ltk9, *])) (by (simp (maxDischargeDepth := 8) [go_sem, World.cell?_alloc_past, ltk2, ltk3, ltk4, ltk5, ltk6, ltk7, ltk8, ltk9, *])) (by (simp (maxDischargeDepth := 8) [go_sem, World.cell?_alloc_past, ltk2, ltk3, ltk4, ltk5, ltk6, ltk7, ltk8, ltk9, *])) (by (simp (maxDischargeDepth := 8) [go_sem, World.cell?_alloc_past, ltk2, ltk3, ltk4, ltk5, ltk6, ltk7, ltk8, ltk9, *])) (by (simp (maxDischargeDepth := 8) [go_sem, World.cell?_alloc_past, ltk2, ltk3, ltk4, ltk5, ltk6, ltk7, ltk8, ltk9, *])) (by (simp (maxDischargeDepth := 8) [go_sem, World.cell?_alloc_past, ltk2, ltk3, ltk4, ltk5, ltk6, ltk7, ltk8, ltk9, *])) (by (simp (maxDischargeDepth := 8) [go_sem, World.cell?_alloc_past, ltk2, ltk3, ltk4, ltk5, ltk6, ltk7, ltk8, ltk9, *])) (by (simp (maxDischargeDepth := 8) [go_sem, World.cell?_alloc_past, ltk2, ltk3, ltk4, ltk5, ltk6, ltk7, ltk8, ltk9, *])) (by (simp (maxDischargeDepth := 8) [go_sem, World.cell?_alloc_past, ltk2, ltk3, ltk4, ltk5, ltk6, ltk7, ltk8, ltk9, *])) (by (simp (maxDischargeDepth := 8) [go_sem, World.cell?_alloc_past, ltk2, ltk3, ltk4, ltk5, ltk6, ltk7, ltk8, ltk9, *]))).mono ?_
  rintro e w1 ⟨rfl, hb⟩
  obtain ⟨l1, d1, rfl⟩ := toExt hb
  clear hb SM
  go_wp2
  refine bodyPost_ret (by simp [results, Try.results88, go_sem, ext_cell, World.cell?_alloc_past, ltk2, ltk3, ltk4, ltk5, ltk6, ltk7, ltk8, ltk9, *]; try rfl) rfl ?_
  exact ⟨rfl, by (repeat (first | with_reducible exact b0 _ | (with_reducible refine bext ?_ _ _) | (with_reducible refine below_drewN ?_ _) | (with_reducible refine Below.drew ?_) | (with_reducible refine bal ?_ _) | (with_reducible refine bset ?_ (by first | omega | (simp <;> omega)) _)))⟩

set_option maxRecDepth 100000 in
set_option maxHeartbeats 1600000 in
theorem cross_clo0 (gv gw : Nat) (c d e f i j k l : Int) (o1 : okF c d = true) (o2 : okF e f = true) (o3 : okF i j = true) (o4 : okF k l = true) (w : World) (hv : gv < w.heap.size) (hw : gw < w.heap.size)
    (c0 : w.cell? ⟨gv, 2, none⟩ = some (.int .i64 c)) (c1 : w.cell? ⟨gv, 3, none⟩ = some (.int .i64 d)) (c2 : w.cell? ⟨gv, 4, none⟩ = some (.int .i64 e)) (c3 : w.cell? ⟨gv, 5, none⟩ = some (.int .i64 f)) (c4 : w.cell? ⟨gw, 2, none⟩ = some (.int .i64 i)) (c5 : w.cell? ⟨gw, 3, none⟩ = some (.int .i64 j)) (c6 : w.cell? ⟨gw, 4, none⟩ = some (.int .i64 k)) (c7 : w.cell? ⟨gw, 5, none⟩ = some (.int .i64 l)) :
    Calls Try.prog 123 #[.int .i64 0, .pointer (some ⟨gv, 0, none⟩), .pointer (some ⟨gw, 0, none⟩)] w fun x w' => x = .returned (.tuple #[.agg #[.int .i64 (twN c d k l (-e) f i j), .int .i64 (twD c d k l (-e) f i j)], .int .i64 (twE c d k l (-e) f i j)]) ∧ Below w.heap.size w w' := by
  have AF : ∀ w, Calls Try.prog 101 #[.int .i64 0] w fun x w' => x = .returned (.tuple #[.int .i64 1, .int .i64 2]) ∧ w' = w := fun w => vec_after 0 (by omega) (by omega) w
  have b2 := okF_out o2
  have AM := fun w => vec_minus e f (by omega) (by omega) w
  have SM := fun gg cap w hg => sum2_ok c d k l (-e) f i j o1 o4 (by rw [okF_neg1]; exact o2) o3 gg cap w hg
  clear o1 o2 o3 o4 b2
  generalize twN c d k l (-e) f i j = X1 at *
  generalize twD c d k l (-e) f i j = X2 at *
  generalize twE c d k l (-e) f i j = X3 at *
  generalize -e = M at *
  have dAl := dAl; have dSt := dSt; have xC := ext_cell; have xF := ext_frozen; have xS := ext_set; have xN := ext_drewN; have xD := ext_drew; have xL := ext_lt; have xE := ext_ne; have xG := ext_nr; have xX := ext_ext; have xL1 := ext_lt1; have xL2 := ext_lt2; have xL3 := ext_lt3; have xM0 := ext_le0; have xM1 := ext_le1; have xM2 := ext_le2
  have dz1 : ∀ (W : World) (l : List Obj) (d : Nat), (ext W.drew l d) = (ext W l d) := fun _ _ _ => rfl
  have dz2 : ∀ (W : World) (l : List Obj) (n d : Nat), (ext (W.drewN n) l d) = (ext W l d) := fun _ _ _ _ => rfl
  go_enter Try.func123, Try.ntmps123
  go_wp2_with fail
  with_reducible refine (AF _).mono ?_
  rintro e w1 ⟨rfl, rfl⟩
  go_wp2_with fail
  go_region_held3 (fun w' => w'.cell? ⟨gv, 2, none⟩ = some (.int .i64 c) ∧ w'.cell? ⟨gv, 3, none⟩ = some (.int .i64 d) ∧ w'.cell? ⟨gv, 4, none⟩ = some (.int .i64 e) ∧ w'.cell? ⟨gv, 5, none⟩ = some (.int .i64 f) ∧ w'.cell? ⟨gw, 2, none⟩ = some (.int .i64 i) ∧ w'.cell? ⟨gw, 3, none⟩ = some (.int .i64 j) ∧ w'.cell? ⟨gw, 4, none⟩ = some (.int .i64 k) ∧ w'.cell? ⟨gw, 5, none⟩ = some (.int .i64 l)) (simp (maxDischargeDepth := 8) [go_sem, World.cell?_alloc_past, ltk2, ltk3, ltk4, ltk5, ltk6, ltk7, ltk8, ltk9, *])
    ((first | (go_at_call 102; with_reducible refine (AM _).mono ?_; rintro x w' ⟨rfl, hb⟩; obtain ⟨l9, d9, rfl⟩ := toExt hb; clear hb) | (go_at_call 122; with_reducible refine (SM _ _ _ (by simp) (by simp) (by simp) (by simp) (by simp) (by simp) (by simp) (by simp) (by simp)).mono ?_; rintro x w' ⟨rfl, hb⟩; obtain ⟨l9, d9, rfl⟩ := toExt hb; clear hb)))
  all_goals (try go_wp2)
  all_goals refine bodyPost_ret (by simp [results, Try.results123, go_sem, ext_cell, World.cell?_alloc_past, ltk2, ltk3, ltk4, ltk5, ltk6, ltk7, ltk8, ltk9, *]; try rfl) rfl ?_
  all_goals exact ⟨rfl, by (repeat (first | with_reducible exact b0 _ | (with_reducible refine bext ?_ _ _) | (with_reducible refine below_drewN ?_ _) | (with_reducible refine Below.drew ?_) | (with_reducible refine bal ?_ _) | (with_reducible refine bset ?_ (by first | omega | (simp <;> omega)) _)))⟩

set_option maxRecDepth 100000 in
set_option maxHeartbeats 1600000 in
theorem cross_clo1 (gv gw : Nat) (e f a b k l g h : Int) (o1 : okF e f = true) (o2 : okF a b = true) (o3 : okF k l = true) (o4 : okF g h = true) (w : World) (hv : gv < w.heap.size) (hw : gw < w.heap.size)
    (c0 : w.cell? ⟨gv, 4, none⟩ = some (.int .i64 e)) (c1 : w.cell? ⟨gv, 5, none⟩ = some (.int .i64 f)) (c2 : w.cell? ⟨gv, 0, none⟩ = some (.int .i64 a)) (c3 : w.cell? ⟨gv, 1, none⟩ = some (.int .i64 b)) (c4 : w.cell? ⟨gw, 4, none⟩ = some (.int .i64 k)) (c5 : w.cell? ⟨gw, 5, none⟩ = some (.int .i64 l)) (c6 : w.cell? ⟨gw, 0, none⟩ = some (.int .i64 g)) (c7 : w.cell? ⟨gw, 1, none⟩ = some (.int .i64 h)) :
    Calls Try.prog 123 #[.int .i64 1, .pointer (some ⟨gv, 0, none⟩), .pointer (some ⟨gw, 0, none⟩)] w fun x w' => x = .returned (.tuple #[.agg #[.int .i64 (twN e f g h (-a) b k l), .int .i64 (twD e f g h (-a) b k l)], .int .i64 (twE e f g h (-a) b k l)]) ∧ Below w.heap.size w w' := by
  have AF : ∀ w, Calls Try.prog 101 #[.int .i64 1] w fun x w' => x = .returned (.tuple #[.int .i64 2, .int .i64 0]) ∧ w' = w := fun w => vec_after 1 (by omega) (by omega) w
  have b2 := okF_out o2
  have AM := fun w => vec_minus a b (by omega) (by omega) w
  have SM := fun gg cap w hg => sum2_ok e f g h (-a) b k l o1 o4 (by rw [okF_neg1]; exact o2) o3 gg cap w hg
  clear o1 o2 o3 o4 b2
  generalize twN e f g h (-a) b k l = X1 at *
  generalize twD e f g h (-a) b k l = X2 at *
  generalize twE e f g h (-a) b k l = X3 at *
  generalize -a = M at *
  have dAl := dAl; have dSt := dSt; have xC := ext_cell; have xF := ext_frozen; have xS := ext_set; have xN := ext_drewN; have xD := ext_drew; have xL := ext_lt; have xE := ext_ne; have xG := ext_nr; have xX := ext_ext; have xL1 := ext_lt1; have xL2 := ext_lt2; have xL3 := ext_lt3; have xM0 := ext_le0; have xM1 := ext_le1; have xM2 := ext_le2
  have dz1 : ∀ (W : World) (l : List Obj) (d : Nat), (ext W.drew l d) = (ext W l d) := fun _ _ _ => rfl
  have dz2 : ∀ (W : World) (l : List Obj) (n d : Nat), (ext (W.drewN n) l d) = (ext W l d) := fun _ _ _ _ => rfl
  go_enter Try.func123, Try.ntmps123
  go_wp2_with fail
  with_reducible refine (AF _).mono ?_
  rintro e w1 ⟨rfl, rfl⟩
  go_wp2_with fail
  go_region_held3 (fun w' => w'.cell? ⟨gv, 4, none⟩ = some (.int .i64 e) ∧ w'.cell? ⟨gv, 5, none⟩ = some (.int .i64 f) ∧ w'.cell? ⟨gv, 0, none⟩ = some (.int .i64 a) ∧ w'.cell? ⟨gv, 1, none⟩ = some (.int .i64 b) ∧ w'.cell? ⟨gw, 4, none⟩ = some (.int .i64 k) ∧ w'.cell? ⟨gw, 5, none⟩ = some (.int .i64 l) ∧ w'.cell? ⟨gw, 0, none⟩ = some (.int .i64 g) ∧ w'.cell? ⟨gw, 1, none⟩ = some (.int .i64 h)) (simp (maxDischargeDepth := 8) [go_sem, World.cell?_alloc_past, ltk2, ltk3, ltk4, ltk5, ltk6, ltk7, ltk8, ltk9, *])
    ((first | (go_at_call 102; with_reducible refine (AM _).mono ?_; rintro x w' ⟨rfl, hb⟩; obtain ⟨l9, d9, rfl⟩ := toExt hb; clear hb) | (go_at_call 122; with_reducible refine (SM _ _ _ (by simp) (by simp) (by simp) (by simp) (by simp) (by simp) (by simp) (by simp) (by simp)).mono ?_; rintro x w' ⟨rfl, hb⟩; obtain ⟨l9, d9, rfl⟩ := toExt hb; clear hb)))
  all_goals (try go_wp2)
  all_goals refine bodyPost_ret (by simp [results, Try.results123, go_sem, ext_cell, World.cell?_alloc_past, ltk2, ltk3, ltk4, ltk5, ltk6, ltk7, ltk8, ltk9, *]; try rfl) rfl ?_
  all_goals exact ⟨rfl, by (repeat (first | with_reducible exact b0 _ | (with_reducible refine bext ?_ _ _) | (with_reducible refine below_drewN ?_ _) | (with_reducible refine Below.drew ?_) | (with_reducible refine bal ?_ _) | (with_reducible refine bset ?_ (by first | omega | (simp <;> omega)) _)))⟩

set_option maxRecDepth 100000 in
set_option maxHeartbeats 1600000 in
theorem cross_clo2 (gv gw : Nat) (a b c d g h i j : Int) (o1 : okF a b = true) (o2 : okF c d = true) (o3 : okF g h = true) (o4 : okF i j = true) (w : World) (hv : gv < w.heap.size) (hw : gw < w.heap.size)
    (c0 : w.cell? ⟨gv, 0, none⟩ = some (.int .i64 a)) (c1 : w.cell? ⟨gv, 1, none⟩ = some (.int .i64 b)) (c2 : w.cell? ⟨gv, 2, none⟩ = some (.int .i64 c)) (c3 : w.cell? ⟨gv, 3, none⟩ = some (.int .i64 d)) (c4 : w.cell? ⟨gw, 0, none⟩ = some (.int .i64 g)) (c5 : w.cell? ⟨gw, 1, none⟩ = some (.int .i64 h)) (c6 : w.cell? ⟨gw, 2, none⟩ = some (.int .i64 i)) (c7 : w.cell? ⟨gw, 3, none⟩ = some (.int .i64 j)) :
    Calls Try.prog 123 #[.int .i64 2, .pointer (some ⟨gv, 0, none⟩), .pointer (some ⟨gw, 0, none⟩)] w fun x w' => x = .returned (.tuple #[.agg #[.int .i64 (twN a b i j (-c) d g h), .int .i64 (twD a b i j (-c) d g h)], .int .i64 (twE a b i j (-c) d g h)]) ∧ Below w.heap.size w w' := by
  have AF : ∀ w, Calls Try.prog 101 #[.int .i64 2] w fun x w' => x = .returned (.tuple #[.int .i64 0, .int .i64 1]) ∧ w' = w := fun w => vec_after 2 (by omega) (by omega) w
  have b2 := okF_out o2
  have AM := fun w => vec_minus c d (by omega) (by omega) w
  have SM := fun gg cap w hg => sum2_ok a b i j (-c) d g h o1 o4 (by rw [okF_neg1]; exact o2) o3 gg cap w hg
  clear o1 o2 o3 o4 b2
  generalize twN a b i j (-c) d g h = X1 at *
  generalize twD a b i j (-c) d g h = X2 at *
  generalize twE a b i j (-c) d g h = X3 at *
  generalize -c = M at *
  have dAl := dAl; have dSt := dSt; have xC := ext_cell; have xF := ext_frozen; have xS := ext_set; have xN := ext_drewN; have xD := ext_drew; have xL := ext_lt; have xE := ext_ne; have xG := ext_nr; have xX := ext_ext; have xL1 := ext_lt1; have xL2 := ext_lt2; have xL3 := ext_lt3; have xM0 := ext_le0; have xM1 := ext_le1; have xM2 := ext_le2
  have dz1 : ∀ (W : World) (l : List Obj) (d : Nat), (ext W.drew l d) = (ext W l d) := fun _ _ _ => rfl
  have dz2 : ∀ (W : World) (l : List Obj) (n d : Nat), (ext (W.drewN n) l d) = (ext W l d) := fun _ _ _ _ => rfl
  go_enter Try.func123, Try.ntmps123
  go_wp2_with fail
  with_reducible refine (AF _).mono ?_
  rintro e w1 ⟨rfl, rfl⟩
  go_wp2_with fail
  go_region_held3 (fun w' => w'.cell? ⟨gv, 0, none⟩ = some (.int .i64 a) ∧ w'.cell? ⟨gv, 1, none⟩ = some (.int .i64 b) ∧ w'.cell? ⟨gv, 2, none⟩ = some (.int .i64 c) ∧ w'.cell? ⟨gv, 3, none⟩ = some (.int .i64 d) ∧ w'.cell? ⟨gw, 0, none⟩ = some (.int .i64 g) ∧ w'.cell? ⟨gw, 1, none⟩ = some (.int .i64 h) ∧ w'.cell? ⟨gw, 2, none⟩ = some (.int .i64 i) ∧ w'.cell? ⟨gw, 3, none⟩ = some (.int .i64 j)) (simp (maxDischargeDepth := 8) [go_sem, World.cell?_alloc_past, ltk2, ltk3, ltk4, ltk5, ltk6, ltk7, ltk8, ltk9, *])
    ((first | (go_at_call 102; with_reducible refine (AM _).mono ?_; rintro x w' ⟨rfl, hb⟩; obtain ⟨l9, d9, rfl⟩ := toExt hb; clear hb) | (go_at_call 122; with_reducible refine (SM _ _ _ (by simp) (by simp) (by simp) (by simp) (by simp) (by simp) (by simp) (by simp) (by simp)).mono ?_; rintro x w' ⟨rfl, hb⟩; obtain ⟨l9, d9, rfl⟩ := toExt hb; clear hb)))
  all_goals (try go_wp2)
  all_goals refine bodyPost_ret (by simp [results, Try.results123, go_sem, ext_cell, World.cell?_alloc_past, ltk2, ltk3, ltk4, ltk5, ltk6, ltk7, ltk8, ltk9, *]; try rfl) rfl ?_
  all_goals exact ⟨rfl, by (repeat (first | with_reducible exact b0 _ | (with_reducible refine bext ?_ _ _) | (with_reducible refine below_drewN ?_ _) | (with_reducible refine Below.drew ?_) | (with_reducible refine bal ?_ _) | (with_reducible refine bset ?_ (by first | omega | (simp <;> omega)) _)))⟩

end Go.Proofs.Ytbckjccbihnlnaa
