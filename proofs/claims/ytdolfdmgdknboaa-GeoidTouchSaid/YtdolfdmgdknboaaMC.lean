/-
  Package vec: dot products of rows; the closure of cross.  Package vec: the product of a matrix and a row.
-/
import Derived.Test.YtdolfdmgdknboaaKu
import Derived.Test.YtdolfdmgdknboaaVs
import Derived.Test.YtdolfdmgdknboaaMA
import Derived.Deep.RegionHeld3
import Derived.Test.YtdolfdmgdknboaaMB
namespace Go.Proofs.Ytdolfdmgdknboaa
open Go.RowKit
set_option linter.unusedVariables false
set_option linter.unusedSimpArgs false

theorem sum3_ok (a b c d e f g h i j k l : Int) (o1 : okF a b = true) (o2 : okF c d = true) (o3 : okF e f = true) (o4 : okF g h = true) (o5 : okF i j = true) (o6 : okF k l = true) (gg cap : Nat) (w : World) (hg : gg < w.heap.size)
    (h0 : w.cell? ⟨gg, 0, none⟩ = some (.int .i64 a)) (h1 : w.cell? ⟨gg, 1, none⟩ = some (.int .i64 b)) (h2 : w.cell? ⟨gg, 2, none⟩ = some (.int .i64 g)) (h3 : w.cell? ⟨gg, 3, none⟩ = some (.int .i64 h)) (h4 : w.cell? ⟨gg, 4, none⟩ = some (.int .i64 c)) (h5 : w.cell? ⟨gg, 5, none⟩ = some (.int .i64 d)) (h6 : w.cell? ⟨gg, 6, none⟩ = some (.int .i64 i)) (h7 : w.cell? ⟨gg, 7, none⟩ = some (.int .i64 j)) (h8 : w.cell? ⟨gg, 8, none⟩ = some (.int .i64 e)) (h9 : w.cell? ⟨gg, 9, none⟩ = some (.int .i64 f)) (h10 : w.cell? ⟨gg, 10, none⟩ = some (.int .i64 k)) (h11 : w.cell? ⟨gg, 11, none⟩ = some (.int .i64 l)) :
    Calls Try.prog 116 #[.slice (some ⟨gg, 0, none⟩) 3 cap] w fun x w' => x = .returned (.tuple #[.agg #[.int .i64 (doN a b c d e f g h i j k l), .int .i64 (doD a b c d e f g h i j k l)], .int .i64 (doE a b c d e f g h i j k l)]) ∧ Below w.heap.size w w' := by
  have p1 := okC_of o1
  have p2 := okC_of o2
  have p3 := okC_of o3
  have q1 := okC_of o4
  have q2 := okC_of o5
  have q3 := okC_of o6
  have m1 := mu_okC a b g h
  have m2 := mu_okC c d i j
  have m3 := mu_okC e f k l
  have s1 := ad_okC (muN a b g h) (muD a b g h) (muN c d i j) (muD c d i j)
  have := vec_sum3 gg cap a b g h c d i j e f k l _ _ _ _ _ _ _ _ _ _ _ _ _ _ _
    (fun w => frac_Mul a b g h p1.1 p1.2.1 p1.2.2.1 p1.2.2.2 q1.1 q1.2.1 q1.2.2.1 q1.2.2.2 w) (fun w => frac_Mul c d i j p2.1 p2.2.1 p2.2.2.1 p2.2.2.2 q2.1 q2.2.1 q2.2.2.1 q2.2.2.2 w) (fun w => frac_Mul e f k l p3.1 p3.2.1 p3.2.2.1 p3.2.2.2 q3.1 q3.2.1 q3.2.2.1 q3.2.2.2 w)
    (fun hz w => by
      have r := frac_Add 0 1 (muN a b g h) (muD a b g h) (by omega) (by omega) (by omega) (by omega) m1.1 m1.2.1 m1.2.2.1 m1.2.2.2 w
      obtain ⟨e1, e2, e3⟩ := ad_zero_left _ _ (mu_ok a b g h o1 o4 hz)
      rw [e1, e2, e3] at r; exact r)
    (fun w => frac_Add (muN a b g h) (muD a b g h) (muN c d i j) (muD c d i j) m1.1 m1.2.1 m1.2.2.1 m1.2.2.2 m2.1 m2.2.1 m2.2.2.1 m2.2.2.2 w)
    (fun w => frac_Add (adN (muN a b g h) (muD a b g h) (muN c d i j) (muD c d i j)) (adD (muN a b g h) (muD a b g h) (muN c d i j) (muD c d i j)) (muN e f k l) (muD e f k l) s1.1 s1.2.1 s1.2.2.1 s1.2.2.2 m3.1 m3.2.1 m3.2.2.1 m3.2.2.2 w)
    w hg h0 h1 h2 h3 h4 h5 h6 h7 h8 h9 h10 h11
  obtain ⟨e1, e2, e3⟩ := do_eq a b c d e f g h i j k l
  rw [e1, e2, e3] at this
  exact this
theorem sum2_ok (a b c d e f g h : Int) (o1 : okF a b = true) (o2 : okF c d = true) (o3 : okF e f = true) (o4 : okF g h = true) (gg cap : Nat) (w : World) (hg : gg < w.heap.size)
    (h0 : w.cell? ⟨gg, 0, none⟩ = some (.int .i64 a)) (h1 : w.cell? ⟨gg, 1, none⟩ = some (.int .i64 b)) (h2 : w.cell? ⟨gg, 2, none⟩ = some (.int .i64 c)) (h3 : w.cell? ⟨gg, 3, none⟩ = some (.int .i64 d)) (h4 : w.cell? ⟨gg, 4, none⟩ = some (.int .i64 e)) (h5 : w.cell? ⟨gg, 5, none⟩ = some (.int .i64 f)) (h6 : w.cell? ⟨gg, 6, none⟩ = some (.int .i64 g)) (h7 : w.cell? ⟨gg, 7, none⟩ = some (.int .i64 h)) :
    Calls Try.prog 116 #[.slice (some ⟨gg, 0, none⟩) 2 cap] w fun x w' => x = .returned (.tuple #[.agg #[.int .i64 (twN a b c d e f g h), .int .i64 (twD a b c d e f g h)], .int .i64 (twE a b c d e f g h)]) ∧ Below w.heap.size w w' := by
  have p1 := okC_of o1
  have p2 := okC_of o2
  have p3 := okC_of o3
  have q1 := okC_of o4
  have m1 := mu_okC a b c d
  have m2 := mu_okC e f g h
  have := vec_sum2 gg cap a b c d e f g h _ _ _ _ _ _ _ _ _
    (fun w => frac_Mul a b c d p1.1 p1.2.1 p1.2.2.1 p1.2.2.2 p2.1 p2.2.1 p2.2.2.1 p2.2.2.2 w) (fun w => frac_Mul e f g h p3.1 p3.2.1 p3.2.2.1 p3.2.2.2 q1.1 q1.2.1 q1.2.2.1 q1.2.2.2 w)
    (fun hz w => by
      have r := frac_Add 0 1 (muN a b c d) (muD a b c d) (by omega) (by omega) (by omega) (by omega) m1.1 m1.2.1 m1.2.2.1 m1.2.2.2 w
      obtain ⟨e1, e2, e3⟩ := ad_zero_left _ _ (mu_ok a b c d o1 o2 hz)
      rw [e1, e2, e3] at r; exact r)
    (fun w => frac_Add (muN a b c d) (muD a b c d) (muN e f g h) (muD e f g h) m1.1 m1.2.1 m1.2.2.1 m1.2.2.2 m2.1 m2.2.1 m2.2.2.1 m2.2.2.2 w)
    w hg h0 h1 h2 h3 h4 h5 h6 h7
  obtain ⟨e1, e2, e3⟩ := tw_eq a b c d e f g h
  rw [e1, e2, e3] at this
  exact this

set_option maxRecDepth 100000 in
set_option maxHeartbeats 1600000 in
theorem vec_dot (a b c d e f g h i j k l : Int) (o1 : okV a b c d e f = true) (o2 : okV g h i j k l = true) (w : World) :
    Calls Try.prog 89 #[.agg #[.int .i64 a, .int .i64 b, .int .i64 c, .int .i64 d, .int .i64 e, .int .i64 f], .agg #[.int .i64 g, .int .i64 h, .int .i64 i, .int .i64 j, .int .i64 k, .int .i64 l]] w fun x w' => x = .returned (.tuple #[.agg #[.int .i64 (doN a b c d e f g h i j k l), .int .i64 (doD a b c d e f g h i j k l)], .int .i64 (doE a b c d e f g h i j k l)]) ∧ Below w.heap.size w w' := by
  obtain ⟨p1, p2, p3⟩ := okV_in o1
  obtain ⟨q1, q2, q3⟩ := okV_in o2
  have SM := fun gg cap w hg => sum3_ok a b c d e f g h i j k l p1 p2 p3 q1 q2 q3 gg cap w hg
  clear p1 p2 p3 q1 q2 q3 o1 o2
  generalize doN a b c d e f g h i j k l = X1 at *
  generalize doD a b c d e f g h i j k l = X2 at *
  generalize doE a b c d e f g h i j k l = X3 at *
  have xR := xRul
  go_enter Try.func89, Try.ntmps89
  go_wp2_with fail
  with_reducible refine (SM _ _ _ (by simp) kk kk kk kk kk kk kk kk kk kk kk kk).mono ?_
  rintro e w1 ⟨rfl, hb⟩
  obtain ⟨l1, d1, rfl⟩ := toExt hb
  clear hb SM
  go_wp2
  refine bodyPost_ret (by simp [results, Try.results89, go_sem, ext_cell, kp, *]; try rfl) rfl ?_
  exact ⟨rfl, kb⟩

set_option maxRecDepth 100000 in
set_option maxHeartbeats 1600000 in
theorem cross_clo0 (gv gw : Nat) (c d e f i j k l : Int) (o1 : okF c d = true) (o2 : okF e f = true) (o3 : okF i j = true) (o4 : okF k l = true) (w : World) (hv : gv < w.heap.size) (hw : gw < w.heap.size)
    (c0 : w.cell? ⟨gv, 2, none⟩ = some (.int .i64 c)) (c1 : w.cell? ⟨gv, 3, none⟩ = some (.int .i64 d)) (c2 : w.cell? ⟨gv, 4, none⟩ = some (.int .i64 e)) (c3 : w.cell? ⟨gv, 5, none⟩ = some (.int .i64 f)) (c4 : w.cell? ⟨gw, 2, none⟩ = some (.int .i64 i)) (c5 : w.cell? ⟨gw, 3, none⟩ = some (.int .i64 j)) (c6 : w.cell? ⟨gw, 4, none⟩ = some (.int .i64 k)) (c7 : w.cell? ⟨gw, 5, none⟩ = some (.int .i64 l)) :
    Calls Try.prog 122 #[.int .i64 0, .pointer (some ⟨gv, 0, none⟩), .pointer (some ⟨gw, 0, none⟩)] w fun x w' => x = .returned (.tuple #[.agg #[.int .i64 (twN c d k l (-e) f i j), .int .i64 (twD c d k l (-e) f i j)], .int .i64 (twE c d k l (-e) f i j)]) ∧ Below w.heap.size w w' := by
  have AF : ∀ w, Calls Try.prog 61 #[.int .i64 0] w fun x w' => x = .returned (.tuple #[.int .i64 1, .int .i64 2]) ∧ w' = w := fun w => vec_after 0 (by omega) (by omega) w
  have b2 := okF_out o2
  have AM := fun w => vec_minus e f (by omega) (by omega) w
  have SM := fun gg cap w hg => sum2_ok c d k l (-e) f i j o1 o4 (by rw [okF_neg1]; exact o2) o3 gg cap w hg
  clear o1 o2 o3 o4 b2
  generalize twN c d k l (-e) f i j = X1 at *
  generalize twD c d k l (-e) f i j = X2 at *
  generalize twE c d k l (-e) f i j = X3 at *
  generalize -e = M at *
  have xR := xRul
  have dz1 := dzA
  have dz2 := dzB
  go_enter Try.func122, Try.ntmps122
  go_wp2_with fail
  with_reducible refine (AF _).mono ?_
  rintro e w1 ⟨rfl, rfl⟩
  go_wp2_with fail
  go_region_held3 (fun w' => w'.cell? ⟨gv, 2, none⟩ = some (.int .i64 c) ∧ w'.cell? ⟨gv, 3, none⟩ = some (.int .i64 d) ∧ w'.cell? ⟨gv, 4, none⟩ = some (.int .i64 e) ∧ w'.cell? ⟨gv, 5, none⟩ = some (.int .i64 f) ∧ w'.cell? ⟨gw, 2, none⟩ = some (.int .i64 i) ∧ w'.cell? ⟨gw, 3, none⟩ = some (.int .i64 j) ∧ w'.cell? ⟨gw, 4, none⟩ = some (.int .i64 k) ∧ w'.cell? ⟨gw, 5, none⟩ = some (.int .i64 l)) (simp (maxDischargeDepth := 8) [go_sem, kp, *])
    ((first | (go_at_call 62; with_reducible refine (AM _).mono ?_; rintro x w' ⟨rfl, hb⟩; obtain ⟨l9, d9, rfl⟩ := toExt hb; clear hb) | (go_at_call 116; with_reducible refine (SM _ _ _ (by simp) (by simp) (by simp) (by simp) (by simp) (by simp) (by simp) (by simp) (by simp)).mono ?_; rintro x w' ⟨rfl, hb⟩; obtain ⟨l9, d9, rfl⟩ := toExt hb; clear hb)))
  all_goals (try go_wp2)
  all_goals refine bodyPost_ret (by simp [results, Try.results122, go_sem, ext_cell, kp, *]; try rfl) rfl ?_
  all_goals exact ⟨rfl, kb⟩

set_option maxRecDepth 100000 in
set_option maxHeartbeats 1600000 in
theorem cross_clo1 (gv gw : Nat) (e f a b k l g h : Int) (o1 : okF e f = true) (o2 : okF a b = true) (o3 : okF k l = true) (o4 : okF g h = true) (w : World) (hv : gv < w.heap.size) (hw : gw < w.heap.size)
    (c0 : w.cell? ⟨gv, 4, none⟩ = some (.int .i64 e)) (c1 : w.cell? ⟨gv, 5, none⟩ = some (.int .i64 f)) (c2 : w.cell? ⟨gv, 0, none⟩ = some (.int .i64 a)) (c3 : w.cell? ⟨gv, 1, none⟩ = some (.int .i64 b)) (c4 : w.cell? ⟨gw, 4, none⟩ = some (.int .i64 k)) (c5 : w.cell? ⟨gw, 5, none⟩ = some (.int .i64 l)) (c6 : w.cell? ⟨gw, 0, none⟩ = some (.int .i64 g)) (c7 : w.cell? ⟨gw, 1, none⟩ = some (.int .i64 h)) :
    Calls Try.prog 122 #[.int .i64 1, .pointer (some ⟨gv, 0, none⟩), .pointer (some ⟨gw, 0, none⟩)] w fun x w' => x = .returned (.tuple #[.agg #[.int .i64 (twN e f g h (-a) b k l), .int .i64 (twD e f g h (-a) b k l)], .int .i64 (twE e f g h (-a) b k l)]) ∧ Below w.heap.size w w' := by
  have AF : ∀ w, Calls Try.prog 61 #[.int .i64 1] w fun x w' => x = .returned (.tuple #[.int .i64 2, .int .i64 0]) ∧ w' = w := fun w => vec_after 1 (by omega) (by omega) w
  have b2 := okF_out o2
  have AM := fun w => vec_minus a b (by omega) (by omega) w
  have SM := fun gg cap w hg => sum2_ok e f g h (-a) b k l o1 o4 (by rw [okF_neg1]; exact o2) o3 gg cap w hg
  clear o1 o2 o3 o4 b2
  generalize twN e f g h (-a) b k l = X1 at *
  generalize twD e f g h (-a) b k l = X2 at *
  generalize twE e f g h (-a) b k l = X3 at *
  generalize -a = M at *
  have xR := xRul
  have dz1 := dzA
  have dz2 := dzB
  go_enter Try.func122, Try.ntmps122
  go_wp2_with fail
  with_reducible refine (AF _).mono ?_
  rintro e w1 ⟨rfl, rfl⟩
  go_wp2_with fail
  go_region_held3 (fun w' => w'.cell? ⟨gv, 4, none⟩ = some (.int .i64 e) ∧ w'.cell? ⟨gv, 5, none⟩ = some (.int .i64 f) ∧ w'.cell? ⟨gv, 0, none⟩ = some (.int .i64 a) ∧ w'.cell? ⟨gv, 1, none⟩ = some (.int .i64 b) ∧ w'.cell? ⟨gw, 4, none⟩ = some (.int .i64 k) ∧ w'.cell? ⟨gw, 5, none⟩ = some (.int .i64 l) ∧ w'.cell? ⟨gw, 0, none⟩ = some (.int .i64 g) ∧ w'.cell? ⟨gw, 1, none⟩ = some (.int .i64 h)) (simp (maxDischargeDepth := 8) [go_sem, kp, *])
    ((first | (go_at_call 62; with_reducible refine (AM _).mono ?_; rintro x w' ⟨rfl, hb⟩; obtain ⟨l9, d9, rfl⟩ := toExt hb; clear hb) | (go_at_call 116; with_reducible refine (SM _ _ _ (by simp) (by simp) (by simp) (by simp) (by simp) (by simp) (by simp) (by simp) (by simp)).mono ?_; rintro x w' ⟨rfl, hb⟩; obtain ⟨l9, d9, rfl⟩ := toExt hb; clear hb)))
  all_goals (try go_wp2)
  all_goals refine bodyPost_ret (by simp [results, Try.results122, go_sem, ext_cell, kp, *]; try rfl) rfl ?_
  all_goals exact ⟨rfl, kb⟩

set_option maxRecDepth 100000 in
set_option maxHeartbeats 1600000 in
theorem cross_clo2 (gv gw : Nat) (a b c d g h i j : Int) (o1 : okF a b = true) (o2 : okF c d = true) (o3 : okF g h = true) (o4 : okF i j = true) (w : World) (hv : gv < w.heap.size) (hw : gw < w.heap.size)
    (c0 : w.cell? ⟨gv, 0, none⟩ = some (.int .i64 a)) (c1 : w.cell? ⟨gv, 1, none⟩ = some (.int .i64 b)) (c2 : w.cell? ⟨gv, 2, none⟩ = some (.int .i64 c)) (c3 : w.cell? ⟨gv, 3, none⟩ = some (.int .i64 d)) (c4 : w.cell? ⟨gw, 0, none⟩ = some (.int .i64 g)) (c5 : w.cell? ⟨gw, 1, none⟩ = some (.int .i64 h)) (c6 : w.cell? ⟨gw, 2, none⟩ = some (.int .i64 i)) (c7 : w.cell? ⟨gw, 3, none⟩ = some (.int .i64 j)) :
    Calls Try.prog 122 #[.int .i64 2, .pointer (some ⟨gv, 0, none⟩), .pointer (some ⟨gw, 0, none⟩)] w fun x w' => x = .returned (.tuple #[.agg #[.int .i64 (twN a b i j (-c) d g h), .int .i64 (twD a b i j (-c) d g h)], .int .i64 (twE a b i j (-c) d g h)]) ∧ Below w.heap.size w w' := by
  have AF : ∀ w, Calls Try.prog 61 #[.int .i64 2] w fun x w' => x = .returned (.tuple #[.int .i64 0, .int .i64 1]) ∧ w' = w := fun w => vec_after 2 (by omega) (by omega) w
  have b2 := okF_out o2
  have AM := fun w => vec_minus c d (by omega) (by omega) w
  have SM := fun gg cap w hg => sum2_ok a b i j (-c) d g h o1 o4 (by rw [okF_neg1]; exact o2) o3 gg cap w hg
  clear o1 o2 o3 o4 b2
  generalize twN a b i j (-c) d g h = X1 at *
  generalize twD a b i j (-c) d g h = X2 at *
  generalize twE a b i j (-c) d g h = X3 at *
  generalize -c = M at *
  have xR := xRul
  have dz1 := dzA
  have dz2 := dzB
  go_enter Try.func122, Try.ntmps122
  go_wp2_with fail
  with_reducible refine (AF _).mono ?_
  rintro e w1 ⟨rfl, rfl⟩
  go_wp2_with fail
  go_region_held3 (fun w' => w'.cell? ⟨gv, 0, none⟩ = some (.int .i64 a) ∧ w'.cell? ⟨gv, 1, none⟩ = some (.int .i64 b) ∧ w'.cell? ⟨gv, 2, none⟩ = some (.int .i64 c) ∧ w'.cell? ⟨gv, 3, none⟩ = some (.int .i64 d) ∧ w'.cell? ⟨gw, 0, none⟩ = some (.int .i64 g) ∧ w'.cell? ⟨gw, 1, none⟩ = some (.int .i64 h) ∧ w'.cell? ⟨gw, 2, none⟩ = some (.int .i64 i) ∧ w'.cell? ⟨gw, 3, none⟩ = some (.int .i64 j)) (simp (maxDischargeDepth := 8) [go_sem, kp, *])
    ((first | (go_at_call 62; with_reducible refine (AM _).mono ?_; rintro x w' ⟨rfl, hb⟩; obtain ⟨l9, d9, rfl⟩ := toExt hb; clear hb) | (go_at_call 116; with_reducible refine (SM _ _ _ (by simp) (by simp) (by simp) (by simp) (by simp) (by simp) (by simp) (by simp) (by simp)).mono ?_; rintro x w' ⟨rfl, hb⟩; obtain ⟨l9, d9, rfl⟩ := toExt hb; clear hb)))
  all_goals (try go_wp2)
  all_goals refine bodyPost_ret (by simp [results, Try.results122, go_sem, ext_cell, kp, *]; try rfl) rfl ?_
  all_goals exact ⟨rfl, kb⟩

end Go.Proofs.Ytdolfdmgdknboaa
namespace Go.Proofs.Ytdolfdmgdknboaa
open Go.RowKit
set_option linter.unusedVariables false
set_option linter.unusedSimpArgs false

set_option maxRecDepth 100000 in
set_option maxHeartbeats 1600000 in
theorem apply_clo0 (gm gv : Nat) (M : Nat → Int) (a b c d e f : Int) (o1 : okV (M 0) (M 1) (M 2) (M 3) (M 4) (M 5) = true) (o2 : okV a b c d e f = true) (w : World) (hm : gm < w.heap.size) (hv : gv < w.heap.size)
    (c0 : w.cell? ⟨gm, 0, none⟩ = some (.int .i64 (M 0))) (c1 : w.cell? ⟨gm, 1, none⟩ = some (.int .i64 (M 1))) (c2 : w.cell? ⟨gm, 2, none⟩ = some (.int .i64 (M 2))) (c3 : w.cell? ⟨gm, 3, none⟩ = some (.int .i64 (M 3))) (c4 : w.cell? ⟨gm, 4, none⟩ = some (.int .i64 (M 4))) (c5 : w.cell? ⟨gm, 5, none⟩ = some (.int .i64 (M 5))) (c6 : w.cell? ⟨gv, 0, none⟩ = some (.int .i64 a)) (c7 : w.cell? ⟨gv, 1, none⟩ = some (.int .i64 b)) (c8 : w.cell? ⟨gv, 2, none⟩ = some (.int .i64 c)) (c9 : w.cell? ⟨gv, 3, none⟩ = some (.int .i64 d)) (c10 : w.cell? ⟨gv, 4, none⟩ = some (.int .i64 e)) (c11 : w.cell? ⟨gv, 5, none⟩ = some (.int .i64 f)) :
    Calls Try.prog 95 #[.int .i64 0, .pointer (some ⟨gm, 0, none⟩), .pointer (some ⟨gv, 0, none⟩)] w fun x w' => x = .returned (.tuple #[.agg #[.int .i64 (doN (M 0) (M 1) (M 2) (M 3) (M 4) (M 5) a b c d e f), .int .i64 (doD (M 0) (M 1) (M 2) (M 3) (M 4) (M 5) a b c d e f)], .int .i64 (doE (M 0) (M 1) (M 2) (M 3) (M 4) (M 5) a b c d e f)]) ∧ Below w.heap.size w w' := by
  have AD := fun w => vec_dot (M 0) (M 1) (M 2) (M 3) (M 4) (M 5) a b c d e f o1 o2 w
  clear o1 o2
  generalize doN (M 0) (M 1) (M 2) (M 3) (M 4) (M 5) a b c d e f = X1 at *
  generalize doD (M 0) (M 1) (M 2) (M 3) (M 4) (M 5) a b c d e f = X2 at *
  generalize doE (M 0) (M 1) (M 2) (M 3) (M 4) (M 5) a b c d e f = X3 at *
  generalize M 0 = m0 at *
  generalize M 1 = m1 at *
  generalize M 2 = m2 at *
  generalize M 3 = m3 at *
  generalize M 4 = m4 at *
  generalize M 5 = m5 at *
  have xR := xRul
  have dz1 := dzA
  have dz2 := dzB
  go_enter Try.func95, Try.ntmps95
  go_wp2_with fail
  go_region_held3 (fun w' => w'.cell? ⟨gm, 0, none⟩ = some (.int .i64 m0) ∧ w'.cell? ⟨gm, 1, none⟩ = some (.int .i64 m1) ∧ w'.cell? ⟨gm, 2, none⟩ = some (.int .i64 m2) ∧ w'.cell? ⟨gm, 3, none⟩ = some (.int .i64 m3) ∧ w'.cell? ⟨gm, 4, none⟩ = some (.int .i64 m4) ∧ w'.cell? ⟨gm, 5, none⟩ = some (.int .i64 m5) ∧ w'.cell? ⟨gv, 0, none⟩ = some (.int .i64 a) ∧ w'.cell? ⟨gv, 1, none⟩ = some (.int .i64 b) ∧ w'.cell? ⟨gv, 2, none⟩ = some (.int .i64 c) ∧ w'.cell? ⟨gv, 3, none⟩ = some (.int .i64 d) ∧ w'.cell? ⟨gv, 4, none⟩ = some (.int .i64 e) ∧ w'.cell? ⟨gv, 5, none⟩ = some (.int .i64 f)) (simp (maxDischargeDepth := 8) [go_sem, kp, *])
    ((go_at_call 89; with_reducible refine (AD _).mono ?_; rintro x w' ⟨rfl, hb⟩; obtain ⟨l9, d9, rfl⟩ := toExt hb; clear hb))
  all_goals (try go_wp2)
  all_goals refine bodyPost_ret (by simp [results, Try.results95, go_sem, ext_cell, kp, *]; try rfl) rfl ?_
  all_goals exact ⟨rfl, kb⟩

set_option maxRecDepth 100000 in
set_option maxHeartbeats 1600000 in
theorem apply_clo1 (gm gv : Nat) (M : Nat → Int) (a b c d e f : Int) (o1 : okV (M 6) (M 7) (M 8) (M 9) (M 10) (M 11) = true) (o2 : okV a b c d e f = true) (w : World) (hm : gm < w.heap.size) (hv : gv < w.heap.size)
    (c0 : w.cell? ⟨gm, 6, none⟩ = some (.int .i64 (M 6))) (c1 : w.cell? ⟨gm, 7, none⟩ = some (.int .i64 (M 7))) (c2 : w.cell? ⟨gm, 8, none⟩ = some (.int .i64 (M 8))) (c3 : w.cell? ⟨gm, 9, none⟩ = some (.int .i64 (M 9))) (c4 : w.cell? ⟨gm, 10, none⟩ = some (.int .i64 (M 10))) (c5 : w.cell? ⟨gm, 11, none⟩ = some (.int .i64 (M 11))) (c6 : w.cell? ⟨gv, 0, none⟩ = some (.int .i64 a)) (c7 : w.cell? ⟨gv, 1, none⟩ = some (.int .i64 b)) (c8 : w.cell? ⟨gv, 2, none⟩ = some (.int .i64 c)) (c9 : w.cell? ⟨gv, 3, none⟩ = some (.int .i64 d)) (c10 : w.cell? ⟨gv, 4, none⟩ = some (.int .i64 e)) (c11 : w.cell? ⟨gv, 5, none⟩ = some (.int .i64 f)) :
    Calls Try.prog 95 #[.int .i64 1, .pointer (some ⟨gm, 0, none⟩), .pointer (some ⟨gv, 0, none⟩)] w fun x w' => x = .returned (.tuple #[.agg #[.int .i64 (doN (M 6) (M 7) (M 8) (M 9) (M 10) (M 11) a b c d e f), .int .i64 (doD (M 6) (M 7) (M 8) (M 9) (M 10) (M 11) a b c d e f)], .int .i64 (doE (M 6) (M 7) (M 8) (M 9) (M 10) (M 11) a b c d e f)]) ∧ Below w.heap.size w w' := by
  have AD := fun w => vec_dot (M 6) (M 7) (M 8) (M 9) (M 10) (M 11) a b c d e f o1 o2 w
  clear o1 o2
  generalize doN (M 6) (M 7) (M 8) (M 9) (M 10) (M 11) a b c d e f = X1 at *
  generalize doD (M 6) (M 7) (M 8) (M 9) (M 10) (M 11) a b c d e f = X2 at *
  generalize doE (M 6) (M 7) (M 8) (M 9) (M 10) (M 11) a b c d e f = X3 at *
  generalize M 6 = m0 at *
  generalize M 7 = m1 at *
  generalize M 8 = m2 at *
  generalize M 9 = m3 at *
  generalize M 10 = m4 at *
  generalize M 11 = m5 at *
  have xR := xRul
  have dz1 := dzA
  have dz2 := dzB
  go_enter Try.func95, Try.ntmps95
  go_wp2_with fail
  go_region_held3 (fun w' => w'.cell? ⟨gm, 6, none⟩ = some (.int .i64 m0) ∧ w'.cell? ⟨gm, 7, none⟩ = some (.int .i64 m1) ∧ w'.cell? ⟨gm, 8, none⟩ = some (.int .i64 m2) ∧ w'.cell? ⟨gm, 9, none⟩ = some (.int .i64 m3) ∧ w'.cell? ⟨gm, 10, none⟩ = some (.int .i64 m4) ∧ w'.cell? ⟨gm, 11, none⟩ = some (.int .i64 m5) ∧ w'.cell? ⟨gv, 0, none⟩ = some (.int .i64 a) ∧ w'.cell? ⟨gv, 1, none⟩ = some (.int .i64 b) ∧ w'.cell? ⟨gv, 2, none⟩ = some (.int .i64 c) ∧ w'.cell? ⟨gv, 3, none⟩ = some (.int .i64 d) ∧ w'.cell? ⟨gv, 4, none⟩ = some (.int .i64 e) ∧ w'.cell? ⟨gv, 5, none⟩ = some (.int .i64 f)) (simp (maxDischargeDepth := 8) [go_sem, kp, *])
    ((go_at_call 89; with_reducible refine (AD _).mono ?_; rintro x w' ⟨rfl, hb⟩; obtain ⟨l9, d9, rfl⟩ := toExt hb; clear hb))
  all_goals (try go_wp2)
  all_goals refine bodyPost_ret (by simp [results, Try.results95, go_sem, ext_cell, kp, *]; try rfl) rfl ?_
  all_goals exact ⟨rfl, kb⟩

set_option maxRecDepth 100000 in
set_option maxHeartbeats 1600000 in
theorem apply_clo2 (gm gv : Nat) (M : Nat → Int) (a b c d e f : Int) (o1 : okV (M 12) (M 13) (M 14) (M 15) (M 16) (M 17) = true) (o2 : okV a b c d e f = true) (w : World) (hm : gm < w.heap.size) (hv : gv < w.heap.size)
    (c0 : w.cell? ⟨gm, 12, none⟩ = some (.int .i64 (M 12))) (c1 : w.cell? ⟨gm, 13, none⟩ = some (.int .i64 (M 13))) (c2 : w.cell? ⟨gm, 14, none⟩ = some (.int .i64 (M 14))) (c3 : w.cell? ⟨gm, 15, none⟩ = some (.int .i64 (M 15))) (c4 : w.cell? ⟨gm, 16, none⟩ = some (.int .i64 (M 16))) (c5 : w.cell? ⟨gm, 17, none⟩ = some (.int .i64 (M 17))) (c6 : w.cell? ⟨gv, 0, none⟩ = some (.int .i64 a)) (c7 : w.cell? ⟨gv, 1, none⟩ = some (.int .i64 b)) (c8 : w.cell? ⟨gv, 2, none⟩ = some (.int .i64 c)) (c9 : w.cell? ⟨gv, 3, none⟩ = some (.int .i64 d)) (c10 : w.cell? ⟨gv, 4, none⟩ = some (.int .i64 e)) (c11 : w.cell? ⟨gv, 5, none⟩ = some (.int .i64 f)) :
    Calls Try.prog 95 #[.int .i64 2, .pointer (some ⟨gm, 0, none⟩), .pointer (some ⟨gv, 0, none⟩)] w fun x w' => x = .returned (.tuple #[.agg #[.int .i64 (doN (M 12) (M 13) (M 14) (M 15) (M 16) (M 17) a b c d e f), .int .i64 (doD (M 12) (M 13) (M 14) (M 15) (M 16) (M 17) a b c d e f)], .int .i64 (doE (M 12) (M 13) (M 14) (M 15) (M 16) (M 17) a b c d e f)]) ∧ Below w.heap.size w w' := by
  have AD := fun w => vec_dot (M 12) (M 13) (M 14) (M 15) (M 16) (M 17) a b c d e f o1 o2 w
  clear o1 o2
  generalize doN (M 12) (M 13) (M 14) (M 15) (M 16) (M 17) a b c d e f = X1 at *
  generalize doD (M 12) (M 13) (M 14) (M 15) (M 16) (M 17) a b c d e f = X2 at *
  generalize doE (M 12) (M 13) (M 14) (M 15) (M 16) (M 17) a b c d e f = X3 at *
  generalize M 12 = m0 at *
  generalize M 13 = m1 at *
  generalize M 14 = m2 at *
  generalize M 15 = m3 at *
  generalize M 16 = m4 at *
  generalize M 17 = m5 at *
  have xR := xRul
  have dz1 := dzA
  have dz2 := dzB
  go_enter Try.func95, Try.ntmps95
  go_wp2_with fail
  go_region_held3 (fun w' => w'.cell? ⟨gm, 12, none⟩ = some (.int .i64 m0) ∧ w'.cell? ⟨gm, 13, none⟩ = some (.int .i64 m1) ∧ w'.cell? ⟨gm, 14, none⟩ = some (.int .i64 m2) ∧ w'.cell? ⟨gm, 15, none⟩ = some (.int .i64 m3) ∧ w'.cell? ⟨gm, 16, none⟩ = some (.int .i64 m4) ∧ w'.cell? ⟨gm, 17, none⟩ = some (.int .i64 m5) ∧ w'.cell? ⟨gv, 0, none⟩ = some (.int .i64 a) ∧ w'.cell? ⟨gv, 1, none⟩ = some (.int .i64 b) ∧ w'.cell? ⟨gv, 2, none⟩ = some (.int .i64 c) ∧ w'.cell? ⟨gv, 3, none⟩ = some (.int .i64 d) ∧ w'.cell? ⟨gv, 4, none⟩ = some (.int .i64 e) ∧ w'.cell? ⟨gv, 5, none⟩ = some (.int .i64 f)) (simp (maxDischargeDepth := 8) [go_sem, kp, *])
    ((go_at_call 89; with_reducible refine (AD _).mono ?_; rintro x w' ⟨rfl, hb⟩; obtain ⟨l9, d9, rfl⟩ := toExt hb; clear hb))
  all_goals (try go_wp2)
  all_goals refine bodyPost_ret (by simp [results, Try.results95, go_sem, ext_cell, kp, *]; try rfl) rfl ?_
  all_goals exact ⟨rfl, kb⟩

set_option maxRecDepth 100000 in
set_option maxHeartbeats 3200000 in
theorem fill_apply (B : Nat) (w0 : World) (p0 p1 : Value) (X0 Y0 E0 X1 Y1 E1 X2 Y2 E2 : Int)
    (A0 : ∀ w, Below B w0 w → Calls Try.prog 95 #[.int .i64 0, p0, p1] w fun e w' => e = .returned (.tuple #[.agg #[.int .i64 X0, .int .i64 Y0], .int .i64 E0]) ∧ Below w.heap.size w w')
    (A1 : ∀ w, Below B w0 w → Calls Try.prog 95 #[.int .i64 1, p0, p1] w fun e w' => e = .returned (.tuple #[.agg #[.int .i64 X1, .int .i64 Y1], .int .i64 E1]) ∧ Below w.heap.size w w')
    (A2 : ∀ w, Below B w0 w → Calls Try.prog 95 #[.int .i64 2, p0, p1] w fun e w' => e = .returned (.tuple #[.agg #[.int .i64 X2, .int .i64 Y2], .int .i64 E2]) ∧ Below w.heap.size w w')
    (w : World) (hB : Below B w0 w) (hle : B ≤ w.heap.size) :
    Calls Try.prog 94 #[.func (.func 95) #[] #[p0, p1]] w fun e w' => e = .returned (.tuple #[.agg #[.int .i64 (vz (fsI E0 E1 E2) X0), .int .i64 (vz (fsI E0 E1 E2) Y0), .int .i64 (vz (fsI E0 E1 E2) X1), .int .i64 (vz (fsI E0 E1 E2) Y1), .int .i64 (vz (fsI E0 E1 E2) X2), .int .i64 (vz (fsI E0 E1 E2) Y2)], .int .i64 (fsI E0 E1 E2)]) ∧ Below w.heap.size w w' := by
  by_cases h0 : E0 = 0
  · subst h0
    by_cases h1 : E1 = 0
    · subst h1
      by_cases h2 : E2 = 0
      · subst h2
        rw [show fsI 0 0 0 = 0 from rfl, vz0, vz0, vz0, vz0, vz0, vz0]
        have xR := xRul
        go_enter Try.func94, Try.ntmps94
        go_wp2_with fail
        refine wp_loop_rounds 4 ?_
        rw [rounds_succ]
        go_wp2_with fail
        with_reducible refine (A0 _ ?hw0).mono ?_
        case hw0 =>
          refine Below.trans hB (Below.mono ?_ hle)
          (with_reducible repeat (first | exact b0 _ | refine bal ?_ _ | refine bdn ?_ _ | refine bdr ?_ | refine bse ?_ _))
        rintro e w1 ⟨rfl, hb⟩
        have HB1 : Below w.heap.size w w1 := by
          refine Below.trans ?_ (hb.mono ?_)
          · exact kb
          · first | omega | (simp <;> omega)
        have zs1 : w.heap.size + 2 < w1.heap.size + 1 := by have := hb.size; (try simp at this); omega
        have c0 : w1.cell? ⟨w.heap.size, 0, none⟩ = some (.int .i64 0) := bce hb
        have c1 : w1.cell? ⟨w.heap.size, 1, none⟩ = some (.int .i64 0) := bce hb
        have c2 : w1.cell? ⟨w.heap.size, 2, none⟩ = some (.int .i64 0) := bce hb
        have c3 : w1.cell? ⟨w.heap.size, 3, none⟩ = some (.int .i64 0) := bce hb
        have c4 : w1.cell? ⟨w.heap.size, 4, none⟩ = some (.int .i64 0) := bce hb
        have c5 : w1.cell? ⟨w.heap.size, 5, none⟩ = some (.int .i64 0) := bce hb
        have cf0 : w1.frozen? ⟨w.heap.size, 0, none⟩ = false := bfz hb
        have cf1 : w1.frozen? ⟨w.heap.size, 1, none⟩ = false := bfz hb
        have cf2 : w1.frozen? ⟨w.heap.size, 2, none⟩ = false := bfz hb
        have cf3 : w1.frozen? ⟨w.heap.size, 3, none⟩ = false := bfz hb
        have cf4 : w1.frozen? ⟨w.heap.size, 4, none⟩ = false := bfz hb
        have cf5 : w1.frozen? ⟨w.heap.size, 5, none⟩ = false := bfz hb
        have r0 : w1.cell? ⟨w.heap.size + 1, 0, none⟩ = some (.int .i64 0) := bce hb
        have r1 : w1.cell? ⟨w.heap.size + 1, 1, none⟩ = some (.int .i64 0) := bce hb
        have r2 : w1.cell? ⟨w.heap.size + 1, 2, none⟩ = some (.int .i64 0) := bce hb
        have r3 : w1.cell? ⟨w.heap.size + 1, 3, none⟩ = some (.int .i64 0) := bce hb
        have r4 : w1.cell? ⟨w.heap.size + 1, 4, none⟩ = some (.int .i64 0) := bce hb
        have r5 : w1.cell? ⟨w.heap.size + 1, 5, none⟩ = some (.int .i64 0) := bce hb
        have rf0 : w1.frozen? ⟨w.heap.size + 1, 0, none⟩ = false := bfz hb
        have rf1 : w1.frozen? ⟨w.heap.size + 1, 1, none⟩ = false := bfz hb
        have rf2 : w1.frozen? ⟨w.heap.size + 1, 2, none⟩ = false := bfz hb
        have rf3 : w1.frozen? ⟨w.heap.size + 1, 3, none⟩ = false := bfz hb
        have rf4 : w1.frozen? ⟨w.heap.size + 1, 4, none⟩ = false := bfz hb
        have rf5 : w1.frozen? ⟨w.heap.size + 1, 5, none⟩ = false := bfz hb
        clear hb
        have zy0_1 : w.heap.size < w1.heap.size := by omega
        have zy1_1 : w.heap.size + 1 < w1.heap.size := by omega
        clear A0
        go_wp2_with fail
        rw [rounds_succ]
        go_wp2_with fail
        with_reducible refine (A1 _ ?hw1).mono ?_
        case hw1 =>
          refine Below.trans hB (Below.mono ?_ hle)
          (with_reducible repeat (first | exact HB1 | refine bal ?_ _ | refine bdn ?_ _ | refine bdr ?_ | refine bse ?_ _))
        rintro e w2 ⟨rfl, hb⟩
        have HB2 : Below w.heap.size w w2 := by
          refine Below.trans ?_ (hb.mono ?_)
          · exact kb
          · first | omega | (simp <;> omega)
        have zs2 : w1.heap.size + 0 < w2.heap.size + 1 := by have := hb.size; (try simp at this); omega
        replace c0 : w2.cell? ⟨w.heap.size, 0, none⟩ = some (.int .i64 0) := bce hb
        replace c1 : w2.cell? ⟨w.heap.size, 1, none⟩ = some (.int .i64 0) := bce hb
        replace c2 : w2.cell? ⟨w.heap.size, 2, none⟩ = some (.int .i64 0) := bce hb
        replace c3 : w2.cell? ⟨w.heap.size, 3, none⟩ = some (.int .i64 0) := bce hb
        replace c4 : w2.cell? ⟨w.heap.size, 4, none⟩ = some (.int .i64 0) := bce hb
        replace c5 : w2.cell? ⟨w.heap.size, 5, none⟩ = some (.int .i64 0) := bce hb
        replace cf0 : w2.frozen? ⟨w.heap.size, 0, none⟩ = false := bfz hb
        replace cf1 : w2.frozen? ⟨w.heap.size, 1, none⟩ = false := bfz hb
        replace cf2 : w2.frozen? ⟨w.heap.size, 2, none⟩ = false := bfz hb
        replace cf3 : w2.frozen? ⟨w.heap.size, 3, none⟩ = false := bfz hb
        replace cf4 : w2.frozen? ⟨w.heap.size, 4, none⟩ = false := bfz hb
        replace cf5 : w2.frozen? ⟨w.heap.size, 5, none⟩ = false := bfz hb
        replace r0 : w2.cell? ⟨w.heap.size + 1, 0, none⟩ = some (.int .i64 X0) := bce hb
        replace r1 : w2.cell? ⟨w.heap.size + 1, 1, none⟩ = some (.int .i64 Y0) := bce hb
        replace r2 : w2.cell? ⟨w.heap.size + 1, 2, none⟩ = some (.int .i64 0) := bce hb
        replace r3 : w2.cell? ⟨w.heap.size + 1, 3, none⟩ = some (.int .i64 0) := bce hb
        replace r4 : w2.cell? ⟨w.heap.size + 1, 4, none⟩ = some (.int .i64 0) := bce hb
        replace r5 : w2.cell? ⟨w.heap.size + 1, 5, none⟩ = some (.int .i64 0) := bce hb
        replace rf0 : w2.frozen? ⟨w.heap.size + 1, 0, none⟩ = false := bfz hb
        replace rf1 : w2.frozen? ⟨w.heap.size + 1, 1, none⟩ = false := bfz hb
        replace rf2 : w2.frozen? ⟨w.heap.size + 1, 2, none⟩ = false := bfz hb
        replace rf3 : w2.frozen? ⟨w.heap.size + 1, 3, none⟩ = false := bfz hb
        replace rf4 : w2.frozen? ⟨w.heap.size + 1, 4, none⟩ = false := bfz hb
        replace rf5 : w2.frozen? ⟨w.heap.size + 1, 5, none⟩ = false := bfz hb
        clear hb HB1
        have zy0_2 : w.heap.size < w2.heap.size := by omega
        have zy1_2 : w.heap.size + 1 < w2.heap.size := by omega
        clear A1
        go_wp2_with fail
        rw [rounds_succ]
        go_wp2_with fail
        with_reducible refine (A2 _ ?hw2).mono ?_
        case hw2 =>
          refine Below.trans hB (Below.mono ?_ hle)
          (with_reducible repeat (first | exact HB2 | refine bal ?_ _ | refine bdn ?_ _ | refine bdr ?_ | refine bse ?_ _))
        rintro e w3 ⟨rfl, hb⟩
        have HB3 : Below w.heap.size w w3 := by
          refine Below.trans ?_ (hb.mono ?_)
          · exact kb
          · first | omega | (simp <;> omega)
        have zs3 : w2.heap.size + 0 < w3.heap.size + 1 := by have := hb.size; (try simp at this); omega
        replace c0 : w3.cell? ⟨w.heap.size, 0, none⟩ = some (.int .i64 0) := bce hb
        replace c1 : w3.cell? ⟨w.heap.size, 1, none⟩ = some (.int .i64 0) := bce hb
        replace c2 : w3.cell? ⟨w.heap.size, 2, none⟩ = some (.int .i64 0) := bce hb
        replace c3 : w3.cell? ⟨w.heap.size, 3, none⟩ = some (.int .i64 0) := bce hb
        replace c4 : w3.cell? ⟨w.heap.size, 4, none⟩ = some (.int .i64 0) := bce hb
        replace c5 : w3.cell? ⟨w.heap.size, 5, none⟩ = some (.int .i64 0) := bce hb
        replace cf0 : w3.frozen? ⟨w.heap.size, 0, none⟩ = false := bfz hb
        replace cf1 : w3.frozen? ⟨w.heap.size, 1, none⟩ = false := bfz hb
        replace cf2 : w3.frozen? ⟨w.heap.size, 2, none⟩ = false := bfz hb
        replace cf3 : w3.frozen? ⟨w.heap.size, 3, none⟩ = false := bfz hb
        replace cf4 : w3.frozen? ⟨w.heap.size, 4, none⟩ = false := bfz hb
        replace cf5 : w3.frozen? ⟨w.heap.size, 5, none⟩ = false := bfz hb
        replace r0 : w3.cell? ⟨w.heap.size + 1, 0, none⟩ = some (.int .i64 X0) := bce hb
        replace r1 : w3.cell? ⟨w.heap.size + 1, 1, none⟩ = some (.int .i64 Y0) := bce hb
        replace r2 : w3.cell? ⟨w.heap.size + 1, 2, none⟩ = some (.int .i64 X1) := bce hb
        replace r3 : w3.cell? ⟨w.heap.size + 1, 3, none⟩ = some (.int .i64 Y1) := bce hb
        replace r4 : w3.cell? ⟨w.heap.size + 1, 4, none⟩ = some (.int .i64 0) := bce hb
        replace r5 : w3.cell? ⟨w.heap.size + 1, 5, none⟩ = some (.int .i64 0) := bce hb
        replace rf0 : w3.frozen? ⟨w.heap.size + 1, 0, none⟩ = false := bfz hb
        replace rf1 : w3.frozen? ⟨w.heap.size + 1, 1, none⟩ = false := bfz hb
        replace rf2 : w3.frozen? ⟨w.heap.size + 1, 2, none⟩ = false := bfz hb
        replace rf3 : w3.frozen? ⟨w.heap.size + 1, 3, none⟩ = false := bfz hb
        replace rf4 : w3.frozen? ⟨w.heap.size + 1, 4, none⟩ = false := bfz hb
        replace rf5 : w3.frozen? ⟨w.heap.size + 1, 5, none⟩ = false := bfz hb
        clear hb HB2
        have zy0_3 : w.heap.size < w3.heap.size := by omega
        have zy1_3 : w.heap.size + 1 < w3.heap.size := by omega
        clear A2
        go_wp2_with fail
        rw [rounds_succ]
        go_wp2
        refine bodyPost_ret (by simp [results, Try.results94, go_sem, ext_cell, kp, *]; try rfl) rfl ?_
        exact ⟨rfl, kb⟩
      · rw [show fsI 0 0 E2 = E2 from rfl, vzn h2, vzn h2, vzn h2, vzn h2, vzn h2, vzn h2]
        have e2 : (E2 == 0) = false := by simp [h2]
        clear h2
        have xR := xRul
        go_enter Try.func94, Try.ntmps94
        go_wp2_with fail
        refine wp_loop_rounds 4 ?_
        rw [rounds_succ]
        go_wp2_with fail
        with_reducible refine (A0 _ ?hw0).mono ?_
        case hw0 =>
          refine Below.trans hB (Below.mono ?_ hle)
          (with_reducible repeat (first | exact b0 _ | refine bal ?_ _ | refine bdn ?_ _ | refine bdr ?_ | refine bse ?_ _))
        rintro e w1 ⟨rfl, hb⟩
        have HB1 : Below w.heap.size w w1 := by
          refine Below.trans ?_ (hb.mono ?_)
          · exact kb
          · first | omega | (simp <;> omega)
        have zs1 : w.heap.size + 2 < w1.heap.size + 1 := by have := hb.size; (try simp at this); omega
        have c0 : w1.cell? ⟨w.heap.size, 0, none⟩ = some (.int .i64 0) := bce hb
        have c1 : w1.cell? ⟨w.heap.size, 1, none⟩ = some (.int .i64 0) := bce hb
        have c2 : w1.cell? ⟨w.heap.size, 2, none⟩ = some (.int .i64 0) := bce hb
        have c3 : w1.cell? ⟨w.heap.size, 3, none⟩ = some (.int .i64 0) := bce hb
        have c4 : w1.cell? ⟨w.heap.size, 4, none⟩ = some (.int .i64 0) := bce hb
        have c5 : w1.cell? ⟨w.heap.size, 5, none⟩ = some (.int .i64 0) := bce hb
        have cf0 : w1.frozen? ⟨w.heap.size, 0, none⟩ = false := bfz hb
        have cf1 : w1.frozen? ⟨w.heap.size, 1, none⟩ = false := bfz hb
        have cf2 : w1.frozen? ⟨w.heap.size, 2, none⟩ = false := bfz hb
        have cf3 : w1.frozen? ⟨w.heap.size, 3, none⟩ = false := bfz hb
        have cf4 : w1.frozen? ⟨w.heap.size, 4, none⟩ = false := bfz hb
        have cf5 : w1.frozen? ⟨w.heap.size, 5, none⟩ = false := bfz hb
        have r0 : w1.cell? ⟨w.heap.size + 1, 0, none⟩ = some (.int .i64 0) := bce hb
        have r1 : w1.cell? ⟨w.heap.size + 1, 1, none⟩ = some (.int .i64 0) := bce hb
        have r2 : w1.cell? ⟨w.heap.size + 1, 2, none⟩ = some (.int .i64 0) := bce hb
        have r3 : w1.cell? ⟨w.heap.size + 1, 3, none⟩ = some (.int .i64 0) := bce hb
        have r4 : w1.cell? ⟨w.heap.size + 1, 4, none⟩ = some (.int .i64 0) := bce hb
        have r5 : w1.cell? ⟨w.heap.size + 1, 5, none⟩ = some (.int .i64 0) := bce hb
        have rf0 : w1.frozen? ⟨w.heap.size + 1, 0, none⟩ = false := bfz hb
        have rf1 : w1.frozen? ⟨w.heap.size + 1, 1, none⟩ = false := bfz hb
        have rf2 : w1.frozen? ⟨w.heap.size + 1, 2, none⟩ = false := bfz hb
        have rf3 : w1.frozen? ⟨w.heap.size + 1, 3, none⟩ = false := bfz hb
        have rf4 : w1.frozen? ⟨w.heap.size + 1, 4, none⟩ = false := bfz hb
        have rf5 : w1.frozen? ⟨w.heap.size + 1, 5, none⟩ = false := bfz hb
        clear hb
        have zy0_1 : w.heap.size < w1.heap.size := by omega
        have zy1_1 : w.heap.size + 1 < w1.heap.size := by omega
        clear A0
        go_wp2_with fail
        rw [rounds_succ]
        go_wp2_with fail
        with_reducible refine (A1 _ ?hw1).mono ?_
        case hw1 =>
          refine Below.trans hB (Below.mono ?_ hle)
          (with_reducible repeat (first | exact HB1 | refine bal ?_ _ | refine bdn ?_ _ | refine bdr ?_ | refine bse ?_ _))
        rintro e w2 ⟨rfl, hb⟩
        have HB2 : Below w.heap.size w w2 := by
          refine Below.trans ?_ (hb.mono ?_)
          · exact kb
          · first | omega | (simp <;> omega)
        have zs2 : w1.heap.size + 0 < w2.heap.size + 1 := by have := hb.size; (try simp at this); omega
        replace c0 : w2.cell? ⟨w.heap.size, 0, none⟩ = some (.int .i64 0) := bce hb
        replace c1 : w2.cell? ⟨w.heap.size, 1, none⟩ = some (.int .i64 0) := bce hb
        replace c2 : w2.cell? ⟨w.heap.size, 2, none⟩ = some (.int .i64 0) := bce hb
        replace c3 : w2.cell? ⟨w.heap.size, 3, none⟩ = some (.int .i64 0) := bce hb
        replace c4 : w2.cell? ⟨w.heap.size, 4, none⟩ = some (.int .i64 0) := bce hb
        replace c5 : w2.cell? ⟨w.heap.size, 5, none⟩ = some (.int .i64 0) := bce hb
        replace cf0 : w2.frozen? ⟨w.heap.size, 0, none⟩ = false := bfz hb
        replace cf1 : w2.frozen? ⟨w.heap.size, 1, none⟩ = false := bfz hb
        replace cf2 : w2.frozen? ⟨w.heap.size, 2, none⟩ = false := bfz hb
        replace cf3 : w2.frozen? ⟨w.heap.size, 3, none⟩ = false := bfz hb
        replace cf4 : w2.frozen? ⟨w.heap.size, 4, none⟩ = false := bfz hb
        replace cf5 : w2.frozen? ⟨w.heap.size, 5, none⟩ = false := bfz hb
        replace r0 : w2.cell? ⟨w.heap.size + 1, 0, none⟩ = some (.int .i64 X0) := bce hb
        replace r1 : w2.cell? ⟨w.heap.size + 1, 1, none⟩ = some (.int .i64 Y0) := bce hb
        replace r2 : w2.cell? ⟨w.heap.size + 1, 2, none⟩ = some (.int .i64 0) := bce hb
        replace r3 : w2.cell? ⟨w.heap.size + 1, 3, none⟩ = some (.int .i64 0) := bce hb
        replace r4 : w2.cell? ⟨w.heap.size + 1, 4, none⟩ = some (.int .i64 0) := bce hb
        replace r5 : w2.cell? ⟨w.heap.size + 1, 5, none⟩ = some (.int .i64 0) := bce hb
        replace rf0 : w2.frozen? ⟨w.heap.size + 1, 0, none⟩ = false := bfz hb
        replace rf1 : w2.frozen? ⟨w.heap.size + 1, 1, none⟩ = false := bfz hb
        replace rf2 : w2.frozen? ⟨w.heap.size + 1, 2, none⟩ = false := bfz hb
        replace rf3 : w2.frozen? ⟨w.heap.size + 1, 3, none⟩ = false := bfz hb
        replace rf4 : w2.frozen? ⟨w.heap.size + 1, 4, none⟩ = false := bfz hb
        replace rf5 : w2.frozen? ⟨w.heap.size + 1, 5, none⟩ = false := bfz hb
        clear hb HB1
        have zy0_2 : w.heap.size < w2.heap.size := by omega
        have zy1_2 : w.heap.size + 1 < w2.heap.size := by omega
        clear A1
        go_wp2_with fail
        rw [rounds_succ]
        go_wp2_with fail
        with_reducible refine (A2 _ ?hw2).mono ?_
        case hw2 =>
          refine Below.trans hB (Below.mono ?_ hle)
          (with_reducible repeat (first | exact HB2 | refine bal ?_ _ | refine bdn ?_ _ | refine bdr ?_ | refine bse ?_ _))
        rintro e w3 ⟨rfl, hb⟩
        have HB3 : Below w.heap.size w w3 := by
          refine Below.trans ?_ (hb.mono ?_)
          · exact kb
          · first | omega | (simp <;> omega)
        have zs3 : w2.heap.size + 0 < w3.heap.size + 1 := by have := hb.size; (try simp at this); omega
        replace c0 : w3.cell? ⟨w.heap.size, 0, none⟩ = some (.int .i64 0) := bce hb
        replace c1 : w3.cell? ⟨w.heap.size, 1, none⟩ = some (.int .i64 0) := bce hb
        replace c2 : w3.cell? ⟨w.heap.size, 2, none⟩ = some (.int .i64 0) := bce hb
        replace c3 : w3.cell? ⟨w.heap.size, 3, none⟩ = some (.int .i64 0) := bce hb
        replace c4 : w3.cell? ⟨w.heap.size, 4, none⟩ = some (.int .i64 0) := bce hb
        replace c5 : w3.cell? ⟨w.heap.size, 5, none⟩ = some (.int .i64 0) := bce hb
        replace cf0 : w3.frozen? ⟨w.heap.size, 0, none⟩ = false := bfz hb
        replace cf1 : w3.frozen? ⟨w.heap.size, 1, none⟩ = false := bfz hb
        replace cf2 : w3.frozen? ⟨w.heap.size, 2, none⟩ = false := bfz hb
        replace cf3 : w3.frozen? ⟨w.heap.size, 3, none⟩ = false := bfz hb
        replace cf4 : w3.frozen? ⟨w.heap.size, 4, none⟩ = false := bfz hb
        replace cf5 : w3.frozen? ⟨w.heap.size, 5, none⟩ = false := bfz hb
        replace r0 : w3.cell? ⟨w.heap.size + 1, 0, none⟩ = some (.int .i64 X0) := bce hb
        replace r1 : w3.cell? ⟨w.heap.size + 1, 1, none⟩ = some (.int .i64 Y0) := bce hb
        replace r2 : w3.cell? ⟨w.heap.size + 1, 2, none⟩ = some (.int .i64 X1) := bce hb
        replace r3 : w3.cell? ⟨w.heap.size + 1, 3, none⟩ = some (.int .i64 Y1) := bce hb
        replace r4 : w3.cell? ⟨w.heap.size + 1, 4, none⟩ = some (.int .i64 0) := bce hb
        replace r5 : w3.cell? ⟨w.heap.size + 1, 5, none⟩ = some (.int .i64 0) := bce hb
        replace rf0 : w3.frozen? ⟨w.heap.size + 1, 0, none⟩ = false := bfz hb
        replace rf1 : w3.frozen? ⟨w.heap.size + 1, 1, none⟩ = false := bfz hb
        replace rf2 : w3.frozen? ⟨w.heap.size + 1, 2, none⟩ = false := bfz hb
        replace rf3 : w3.frozen? ⟨w.heap.size + 1, 3, none⟩ = false := bfz hb
        replace rf4 : w3.frozen? ⟨w.heap.size + 1, 4, none⟩ = false := bfz hb
        replace rf5 : w3.frozen? ⟨w.heap.size + 1, 5, none⟩ = false := bfz hb
        clear hb HB2
        have zy0_3 : w.heap.size < w3.heap.size := by omega
        have zy1_3 : w.heap.size + 1 < w3.heap.size := by omega
        clear A2
        go_wp2
        refine bodyPost_ret (by simp [results, Try.results94, go_sem, ext_cell, kp, *]; try rfl) rfl ?_
        exact ⟨rfl, kb⟩
    · rw [show fsI 0 E1 E2 = E1 by unfold fsI; rw [if_pos rfl, if_neg h1], vzn h1, vzn h1, vzn h1, vzn h1, vzn h1, vzn h1]
      have e1 : (E1 == 0) = false := by simp [h1]
      clear h1 A2
      have xR := xRul
      go_enter Try.func94, Try.ntmps94
      go_wp2_with fail
      refine wp_loop_rounds 4 ?_
      rw [rounds_succ]
      go_wp2_with fail
      with_reducible refine (A0 _ ?hw0).mono ?_
      case hw0 =>
        refine Below.trans hB (Below.mono ?_ hle)
        (with_reducible repeat (first | exact b0 _ | refine bal ?_ _ | refine bdn ?_ _ | refine bdr ?_ | refine bse ?_ _))
      rintro e w1 ⟨rfl, hb⟩
      have HB1 : Below w.heap.size w w1 := by
        refine Below.trans ?_ (hb.mono ?_)
        · exact kb
        · first | omega | (simp <;> omega)
      have zs1 : w.heap.size + 2 < w1.heap.size + 1 := by have := hb.size; (try simp at this); omega
      have c0 : w1.cell? ⟨w.heap.size, 0, none⟩ = some (.int .i64 0) := bce hb
      have c1 : w1.cell? ⟨w.heap.size, 1, none⟩ = some (.int .i64 0) := bce hb
      have c2 : w1.cell? ⟨w.heap.size, 2, none⟩ = some (.int .i64 0) := bce hb
      have c3 : w1.cell? ⟨w.heap.size, 3, none⟩ = some (.int .i64 0) := bce hb
      have c4 : w1.cell? ⟨w.heap.size, 4, none⟩ = some (.int .i64 0) := bce hb
      have c5 : w1.cell? ⟨w.heap.size, 5, none⟩ = some (.int .i64 0) := bce hb
      have cf0 : w1.frozen? ⟨w.heap.size, 0, none⟩ = false := bfz hb
      have cf1 : w1.frozen? ⟨w.heap.size, 1, none⟩ = false := bfz hb
      have cf2 : w1.frozen? ⟨w.heap.size, 2, none⟩ = false := bfz hb
      have cf3 : w1.frozen? ⟨w.heap.size, 3, none⟩ = false := bfz hb
      have cf4 : w1.frozen? ⟨w.heap.size, 4, none⟩ = false := bfz hb
      have cf5 : w1.frozen? ⟨w.heap.size, 5, none⟩ = false := bfz hb
      have r0 : w1.cell? ⟨w.heap.size + 1, 0, none⟩ = some (.int .i64 0) := bce hb
      have r1 : w1.cell? ⟨w.heap.size + 1, 1, none⟩ = some (.int .i64 0) := bce hb
      have r2 : w1.cell? ⟨w.heap.size + 1, 2, none⟩ = some (.int .i64 0) := bce hb
      have r3 : w1.cell? ⟨w.heap.size + 1, 3, none⟩ = some (.int .i64 0) := bce hb
      have r4 : w1.cell? ⟨w.heap.size + 1, 4, none⟩ = some (.int .i64 0) := bce hb
      have r5 : w1.cell? ⟨w.heap.size + 1, 5, none⟩ = some (.int .i64 0) := bce hb
      have rf0 : w1.frozen? ⟨w.heap.size + 1, 0, none⟩ = false := bfz hb
      have rf1 : w1.frozen? ⟨w.heap.size + 1, 1, none⟩ = false := bfz hb
      have rf2 : w1.frozen? ⟨w.heap.size + 1, 2, none⟩ = false := bfz hb
      have rf3 : w1.frozen? ⟨w.heap.size + 1, 3, none⟩ = false := bfz hb
      have rf4 : w1.frozen? ⟨w.heap.size + 1, 4, none⟩ = false := bfz hb
      have rf5 : w1.frozen? ⟨w.heap.size + 1, 5, none⟩ = false := bfz hb
      clear hb
      have zy0_1 : w.heap.size < w1.heap.size := by omega
      have zy1_1 : w.heap.size + 1 < w1.heap.size := by omega
      clear A0
      go_wp2_with fail
      rw [rounds_succ]
      go_wp2_with fail
      with_reducible refine (A1 _ ?hw1).mono ?_
      case hw1 =>
        refine Below.trans hB (Below.mono ?_ hle)
        (with_reducible repeat (first | exact HB1 | refine bal ?_ _ | refine bdn ?_ _ | refine bdr ?_ | refine bse ?_ _))
      rintro e w2 ⟨rfl, hb⟩
      have HB2 : Below w.heap.size w w2 := by
        refine Below.trans ?_ (hb.mono ?_)
        · exact kb
        · first | omega | (simp <;> omega)
      have zs2 : w1.heap.size + 0 < w2.heap.size + 1 := by have := hb.size; (try simp at this); omega
      replace c0 : w2.cell? ⟨w.heap.size, 0, none⟩ = some (.int .i64 0) := bce hb
      replace c1 : w2.cell? ⟨w.heap.size, 1, none⟩ = some (.int .i64 0) := bce hb
      replace c2 : w2.cell? ⟨w.heap.size, 2, none⟩ = some (.int .i64 0) := bce hb
      replace c3 : w2.cell? ⟨w.heap.size, 3, none⟩ = some (.int .i64 0) := bce hb
      replace c4 : w2.cell? ⟨w.heap.size, 4, none⟩ = some (.int .i64 0) := bce hb
      replace c5 : w2.cell? ⟨w.heap.size, 5, none⟩ = some (.int .i64 0) := bce hb
      replace cf0 : w2.frozen? ⟨w.heap.size, 0, none⟩ = false := bfz hb
      replace cf1 : w2.frozen? ⟨w.heap.size, 1, none⟩ = false := bfz hb
      replace cf2 : w2.frozen? ⟨w.heap.size, 2, none⟩ = false := bfz hb
      replace cf3 : w2.frozen? ⟨w.heap.size, 3, none⟩ = false := bfz hb
      replace cf4 : w2.frozen? ⟨w.heap.size, 4, none⟩ = false := bfz hb
      replace cf5 : w2.frozen? ⟨w.heap.size, 5, none⟩ = false := bfz hb
      replace r0 : w2.cell? ⟨w.heap.size + 1, 0, none⟩ = some (.int .i64 X0) := bce hb
      replace r1 : w2.cell? ⟨w.heap.size + 1, 1, none⟩ = some (.int .i64 Y0) := bce hb
      replace r2 : w2.cell? ⟨w.heap.size + 1, 2, none⟩ = some (.int .i64 0) := bce hb
      replace r3 : w2.cell? ⟨w.heap.size + 1, 3, none⟩ = some (.int .i64 0) := bce hb
      replace r4 : w2.cell? ⟨w.heap.size + 1, 4, none⟩ = some (.int .i64 0) := bce hb
      replace r5 : w2.cell? ⟨w.heap.size + 1, 5, none⟩ = some (.int .i64 0) := bce hb
      replace rf0 : w2.frozen? ⟨w.heap.size + 1, 0, none⟩ = false := bfz hb
      replace rf1 : w2.frozen? ⟨w.heap.size + 1, 1, none⟩ = false := bfz hb
      replace rf2 : w2.frozen? ⟨w.heap.size + 1, 2, none⟩ = false := bfz hb
      replace rf3 : w2.frozen? ⟨w.heap.size + 1, 3, none⟩ = false := bfz hb
      replace rf4 : w2.frozen? ⟨w.heap.size + 1, 4, none⟩ = false := bfz hb
      replace rf5 : w2.frozen? ⟨w.heap.size + 1, 5, none⟩ = false := bfz hb
      clear hb HB1
      have zy0_2 : w.heap.size < w2.heap.size := by omega
      have zy1_2 : w.heap.size + 1 < w2.heap.size := by omega
      clear A1
      go_wp2
      refine bodyPost_ret (by simp [results, Try.results94, go_sem, ext_cell, kp, *]; try rfl) rfl ?_
      exact ⟨rfl, kb⟩
  · rw [show fsI E0 E1 E2 = E0 by unfold fsI; rw [if_neg h0], vzn h0, vzn h0, vzn h0, vzn h0, vzn h0, vzn h0]
    have e0 : (E0 == 0) = false := by simp [h0]
    clear h0 A1 A2
    have xR := xRul
    go_enter Try.func94, Try.ntmps94
    go_wp2_with fail
    refine wp_loop_rounds 4 ?_
    rw [rounds_succ]
    go_wp2_with fail
    with_reducible refine (A0 _ ?hw0).mono ?_
    case hw0 =>
      refine Below.trans hB (Below.mono ?_ hle)
      (with_reducible repeat (first | exact b0 _ | refine bal ?_ _ | refine bdn ?_ _ | refine bdr ?_ | refine bse ?_ _))
    rintro e w1 ⟨rfl, hb⟩
    have HB1 : Below w.heap.size w w1 := by
      refine Below.trans ?_ (hb.mono ?_)
      · exact kb
      · first | omega | (simp <;> omega)
    have zs1 : w.heap.size + 2 < w1.heap.size + 1 := by have := hb.size; (try simp at this); omega
    have c0 : w1.cell? ⟨w.heap.size, 0, none⟩ = some (.int .i64 0) := bce hb
    have c1 : w1.cell? ⟨w.heap.size, 1, none⟩ = some (.int .i64 0) := bce hb
    have c2 : w1.cell? ⟨w.heap.size, 2, none⟩ = some (.int .i64 0) := bce hb
    have c3 : w1.cell? ⟨w.heap.size, 3, none⟩ = some (.int .i64 0) := bce hb
    have c4 : w1.cell? ⟨w.heap.size, 4, none⟩ = some (.int .i64 0) := bce hb
    have c5 : w1.cell? ⟨w.heap.size, 5, none⟩ = some (.int .i64 0) := bce hb
    have cf0 : w1.frozen? ⟨w.heap.size, 0, none⟩ = false := bfz hb
    have cf1 : w1.frozen? ⟨w.heap.size, 1, none⟩ = false := bfz hb
    have cf2 : w1.frozen? ⟨w.heap.size, 2, none⟩ = false := bfz hb
    have cf3 : w1.frozen? ⟨w.heap.size, 3, none⟩ = false := bfz hb
    have cf4 : w1.frozen? ⟨w.heap.size, 4, none⟩ = false := bfz hb
    have cf5 : w1.frozen? ⟨w.heap.size, 5, none⟩ = false := bfz hb
    have r0 : w1.cell? ⟨w.heap.size + 1, 0, none⟩ = some (.int .i64 0) := bce hb
    have r1 : w1.cell? ⟨w.heap.size + 1, 1, none⟩ = some (.int .i64 0) := bce hb
    have r2 : w1.cell? ⟨w.heap.size + 1, 2, none⟩ = some (.int .i64 0) := bce hb
    have r3 : w1.cell? ⟨w.heap.size + 1, 3, none⟩ = some (.int .i64 0) := bce hb
    have r4 : w1.cell? ⟨w.heap.size + 1, 4, none⟩ = some (.int .i64 0) := bce hb
    have r5 : w1.cell? ⟨w.heap.size + 1, 5, none⟩ = some (.int .i64 0) := bce hb
    have rf0 : w1.frozen? ⟨w.heap.size + 1, 0, none⟩ = false := bfz hb
    have rf1 : w1.frozen? ⟨w.heap.size + 1, 1, none⟩ = false := bfz hb
    have rf2 : w1.frozen? ⟨w.heap.size + 1, 2, none⟩ = false := bfz hb
    have rf3 : w1.frozen? ⟨w.heap.size + 1, 3, none⟩ = false := bfz hb
    have rf4 : w1.frozen? ⟨w.heap.size + 1, 4, none⟩ = false := bfz hb
    have rf5 : w1.frozen? ⟨w.heap.size + 1, 5, none⟩ = false := bfz hb
    clear hb
    have zy0_1 : w.heap.size < w1.heap.size := by omega
    have zy1_1 : w.heap.size + 1 < w1.heap.size := by omega
    clear A0
    go_wp2
    refine bodyPost_ret (by simp [results, Try.results94, go_sem, ext_cell, kp, *]; try rfl) rfl ?_
    exact ⟨rfl, kb⟩

set_option maxRecDepth 100000 in
set_option maxHeartbeats 1600000 in
theorem vec_apply (M : Nat → Int) (a b c d e f : Int) (o1 : okM M) (o2 : okV a b c d e f = true) (w : World) :
    Calls Try.prog 47 #[.agg #[.int .i64 (M 0), .int .i64 (M 1), .int .i64 (M 2), .int .i64 (M 3), .int .i64 (M 4), .int .i64 (M 5), .int .i64 (M 6), .int .i64 (M 7), .int .i64 (M 8), .int .i64 (M 9), .int .i64 (M 10), .int .i64 (M 11), .int .i64 (M 12), .int .i64 (M 13), .int .i64 (M 14), .int .i64 (M 15), .int .i64 (M 16), .int .i64 (M 17)], .agg #[.int .i64 a, .int .i64 b, .int .i64 c, .int .i64 d, .int .i64 e, .int .i64 f]] w fun x w' => x = .returned (.tuple #[.agg #[.int .i64 (vz (fsI (doE (M 0) (M 1) (M 2) (M 3) (M 4) (M 5) a b c d e f) (doE (M 6) (M 7) (M 8) (M 9) (M 10) (M 11) a b c d e f) (doE (M 12) (M 13) (M 14) (M 15) (M 16) (M 17) a b c d e f)) (doN (M 0) (M 1) (M 2) (M 3) (M 4) (M 5) a b c d e f)), .int .i64 (vz (fsI (doE (M 0) (M 1) (M 2) (M 3) (M 4) (M 5) a b c d e f) (doE (M 6) (M 7) (M 8) (M 9) (M 10) (M 11) a b c d e f) (doE (M 12) (M 13) (M 14) (M 15) (M 16) (M 17) a b c d e f)) (doD (M 0) (M 1) (M 2) (M 3) (M 4) (M 5) a b c d e f)), .int .i64 (vz (fsI (doE (M 0) (M 1) (M 2) (M 3) (M 4) (M 5) a b c d e f) (doE (M 6) (M 7) (M 8) (M 9) (M 10) (M 11) a b c d e f) (doE (M 12) (M 13) (M 14) (M 15) (M 16) (M 17) a b c d e f)) (doN (M 6) (M 7) (M 8) (M 9) (M 10) (M 11) a b c d e f)), .int .i64 (vz (fsI (doE (M 0) (M 1) (M 2) (M 3) (M 4) (M 5) a b c d e f) (doE (M 6) (M 7) (M 8) (M 9) (M 10) (M 11) a b c d e f) (doE (M 12) (M 13) (M 14) (M 15) (M 16) (M 17) a b c d e f)) (doD (M 6) (M 7) (M 8) (M 9) (M 10) (M 11) a b c d e f)), .int .i64 (vz (fsI (doE (M 0) (M 1) (M 2) (M 3) (M 4) (M 5) a b c d e f) (doE (M 6) (M 7) (M 8) (M 9) (M 10) (M 11) a b c d e f) (doE (M 12) (M 13) (M 14) (M 15) (M 16) (M 17) a b c d e f)) (doN (M 12) (M 13) (M 14) (M 15) (M 16) (M 17) a b c d e f)), .int .i64 (vz (fsI (doE (M 0) (M 1) (M 2) (M 3) (M 4) (M 5) a b c d e f) (doE (M 6) (M 7) (M 8) (M 9) (M 10) (M 11) a b c d e f) (doE (M 12) (M 13) (M 14) (M 15) (M 16) (M 17) a b c d e f)) (doD (M 12) (M 13) (M 14) (M 15) (M 16) (M 17) a b c d e f))], .int .i64 (fsI (doE (M 0) (M 1) (M 2) (M 3) (M 4) (M 5) a b c d e f) (doE (M 6) (M 7) (M 8) (M 9) (M 10) (M 11) a b c d e f) (doE (M 12) (M 13) (M 14) (M 15) (M 16) (M 17) a b c d e f))]) ∧ Below w.heap.size w w' := by
  obtain ⟨u1, u2, u3⟩ := okM_row M o1
  have K0 := fun gm gv w => apply_clo0 gm gv M a b c d e f u1 o2 w
  have K1 := fun gm gv w => apply_clo1 gm gv M a b c d e f u2 o2 w
  have K2 := fun gm gv w => apply_clo2 gm gv M a b c d e f u3 o2 w
  clear u1 u2 u3 o1 o2
  generalize doN (M 0) (M 1) (M 2) (M 3) (M 4) (M 5) a b c d e f = x1 at *
  generalize doD (M 0) (M 1) (M 2) (M 3) (M 4) (M 5) a b c d e f = x2 at *
  generalize doE (M 0) (M 1) (M 2) (M 3) (M 4) (M 5) a b c d e f = x3 at *
  generalize doN (M 6) (M 7) (M 8) (M 9) (M 10) (M 11) a b c d e f = y1 at *
  generalize doD (M 6) (M 7) (M 8) (M 9) (M 10) (M 11) a b c d e f = y2 at *
  generalize doE (M 6) (M 7) (M 8) (M 9) (M 10) (M 11) a b c d e f = y3 at *
  generalize doN (M 12) (M 13) (M 14) (M 15) (M 16) (M 17) a b c d e f = z1 at *
  generalize doD (M 12) (M 13) (M 14) (M 15) (M 16) (M 17) a b c d e f = z2 at *
  generalize doE (M 12) (M 13) (M 14) (M 15) (M 16) (M 17) a b c d e f = z3 at *
  generalize M 0 = m0 at *
  generalize M 1 = m1 at *
  generalize M 2 = m2 at *
  generalize M 3 = m3 at *
  generalize M 4 = m4 at *
  generalize M 5 = m5 at *
  generalize M 6 = m6 at *
  generalize M 7 = m7 at *
  generalize M 8 = m8 at *
  generalize M 9 = m9 at *
  generalize M 10 = m10 at *
  generalize M 11 = m11 at *
  generalize M 12 = m12 at *
  generalize M 13 = m13 at *
  generalize M 14 = m14 at *
  generalize M 15 = m15 at *
  generalize M 16 = m16 at *
  generalize M 17 = m17 at *
  have H0 := Lib.hid K0
  have H1 := Lib.hid K1
  have H2 := Lib.hid K2
  clear K0 K1 K2
  have xR := xRul
  go_enter Try.func47, Try.ntmps47
  go_wp2_with fail
  refine opqC (fun wa => (wa.cell? ⟨w.heap.size, 0, none⟩ = some (.int .i64 m0) ∧ wa.cell? ⟨w.heap.size, 1, none⟩ = some (.int .i64 m1) ∧ wa.cell? ⟨w.heap.size, 2, none⟩ = some (.int .i64 m2) ∧ wa.cell? ⟨w.heap.size, 3, none⟩ = some (.int .i64 m3) ∧ wa.cell? ⟨w.heap.size, 4, none⟩ = some (.int .i64 m4) ∧ wa.cell? ⟨w.heap.size, 5, none⟩ = some (.int .i64 m5) ∧ wa.cell? ⟨w.heap.size, 6, none⟩ = some (.int .i64 m6) ∧ wa.cell? ⟨w.heap.size, 7, none⟩ = some (.int .i64 m7) ∧ wa.cell? ⟨w.heap.size, 8, none⟩ = some (.int .i64 m8) ∧ wa.cell? ⟨w.heap.size, 9, none⟩ = some (.int .i64 m9) ∧ wa.cell? ⟨w.heap.size, 10, none⟩ = some (.int .i64 m10) ∧ wa.cell? ⟨w.heap.size, 11, none⟩ = some (.int .i64 m11) ∧ wa.cell? ⟨w.heap.size, 12, none⟩ = some (.int .i64 m12) ∧ wa.cell? ⟨w.heap.size, 13, none⟩ = some (.int .i64 m13) ∧ wa.cell? ⟨w.heap.size, 14, none⟩ = some (.int .i64 m14) ∧ wa.cell? ⟨w.heap.size, 15, none⟩ = some (.int .i64 m15) ∧ wa.cell? ⟨w.heap.size, 16, none⟩ = some (.int .i64 m16) ∧ wa.cell? ⟨w.heap.size, 17, none⟩ = some (.int .i64 m17) ∧ wa.cell? ⟨w.heap.size + 1, 0, none⟩ = some (.int .i64 a) ∧ wa.cell? ⟨w.heap.size + 1, 1, none⟩ = some (.int .i64 b) ∧ wa.cell? ⟨w.heap.size + 1, 2, none⟩ = some (.int .i64 c) ∧ wa.cell? ⟨w.heap.size + 1, 3, none⟩ = some (.int .i64 d) ∧ wa.cell? ⟨w.heap.size + 1, 4, none⟩ = some (.int .i64 e) ∧ wa.cell? ⟨w.heap.size + 1, 5, none⟩ = some (.int .i64 f) ∧ wa.cell? ⟨w.heap.size + 1 + 1, 0, none⟩ = some (.int .i64 0) ∧ wa.cell? ⟨w.heap.size + 1 + 1, 1, none⟩ = some (.int .i64 0) ∧ wa.cell? ⟨w.heap.size + 1 + 1, 2, none⟩ = some (.int .i64 0) ∧ wa.cell? ⟨w.heap.size + 1 + 1, 3, none⟩ = some (.int .i64 0) ∧ wa.cell? ⟨w.heap.size + 1 + 1, 4, none⟩ = some (.int .i64 0) ∧ wa.cell? ⟨w.heap.size + 1 + 1, 5, none⟩ = some (.int .i64 0) ∧ wa.frozen? ⟨w.heap.size + 1 + 1, 0, none⟩ = false ∧ wa.frozen? ⟨w.heap.size + 1 + 1, 1, none⟩ = false ∧ wa.frozen? ⟨w.heap.size + 1 + 1, 2, none⟩ = false ∧ wa.frozen? ⟨w.heap.size + 1 + 1, 3, none⟩ = false ∧ wa.frozen? ⟨w.heap.size + 1 + 1, 4, none⟩ = false ∧ wa.frozen? ⟨w.heap.size + 1 + 1, 5, none⟩ = false) ∧ w.heap.size + 1 + 1 < wa.heap.size ∧ Below w.heap.size w wa) ?_ ?_
  · exact ⟨⟨kk, kk, kk, kk, kk, kk, kk, kk, kk, kk, kk, kk, kk, kk, kk, kk, kk, kk, kk, kk, kk, kk, kk, kk, kk, kk, kk, kk, kk, kk, kk, kk, kk, kk, kk, kk⟩, by (simp <;> omega), kb⟩
  rintro wa ⟨⟨ka0, ka1, ka2, ka3, ka4, ka5, ka6, ka7, ka8, ka9, ka10, ka11, ka12, ka13, ka14, ka15, ka16, ka17, kb0, kb1, kb2, kb3, kb4, kb5, kd0, kd1, kd2, kd3, kd4, kd5, ke0, ke1, ke2, ke3, ke4, ke5⟩, za2, HBa⟩
  have za0 : w.heap.size < wa.heap.size := by omega
  have za1 : w.heap.size + 1 < wa.heap.size := by omega
  have G0 : ∀ W, Below wa.heap.size wa W → Calls Try.prog 95 #[.int .i64 0, .pointer (some ⟨w.heap.size, 0, none⟩), .pointer (some ⟨w.heap.size + 1, 0, none⟩)] W fun e w' => e = .returned (.tuple #[.agg #[.int .i64 x1, .int .i64 x2], .int .i64 x3]) ∧ Below W.heap.size W w' := fun W hW =>
    H0.out _ _ W (Nat.lt_of_lt_of_le za0 hW.size) (Nat.lt_of_lt_of_le za1 hW.size) ((hW.cell za0).trans ka0) ((hW.cell za0).trans ka1) ((hW.cell za0).trans ka2) ((hW.cell za0).trans ka3) ((hW.cell za0).trans ka4) ((hW.cell za0).trans ka5) ((hW.cell za1).trans kb0) ((hW.cell za1).trans kb1) ((hW.cell za1).trans kb2) ((hW.cell za1).trans kb3) ((hW.cell za1).trans kb4) ((hW.cell za1).trans kb5)
  have G1 : ∀ W, Below wa.heap.size wa W → Calls Try.prog 95 #[.int .i64 1, .pointer (some ⟨w.heap.size, 0, none⟩), .pointer (some ⟨w.heap.size + 1, 0, none⟩)] W fun e w' => e = .returned (.tuple #[.agg #[.int .i64 y1, .int .i64 y2], .int .i64 y3]) ∧ Below W.heap.size W w' := fun W hW =>
    H1.out _ _ W (Nat.lt_of_lt_of_le za0 hW.size) (Nat.lt_of_lt_of_le za1 hW.size) ((hW.cell za0).trans ka6) ((hW.cell za0).trans ka7) ((hW.cell za0).trans ka8) ((hW.cell za0).trans ka9) ((hW.cell za0).trans ka10) ((hW.cell za0).trans ka11) ((hW.cell za1).trans kb0) ((hW.cell za1).trans kb1) ((hW.cell za1).trans kb2) ((hW.cell za1).trans kb3) ((hW.cell za1).trans kb4) ((hW.cell za1).trans kb5)
  have G2 : ∀ W, Below wa.heap.size wa W → Calls Try.prog 95 #[.int .i64 2, .pointer (some ⟨w.heap.size, 0, none⟩), .pointer (some ⟨w.heap.size + 1, 0, none⟩)] W fun e w' => e = .returned (.tuple #[.agg #[.int .i64 z1, .int .i64 z2], .int .i64 z3]) ∧ Below W.heap.size W w' := fun W hW =>
    H2.out _ _ W (Nat.lt_of_lt_of_le za0 hW.size) (Nat.lt_of_lt_of_le za1 hW.size) ((hW.cell za0).trans ka12) ((hW.cell za0).trans ka13) ((hW.cell za0).trans ka14) ((hW.cell za0).trans ka15) ((hW.cell za0).trans ka16) ((hW.cell za0).trans ka17) ((hW.cell za1).trans kb0) ((hW.cell za1).trans kb1) ((hW.cell za1).trans kb2) ((hW.cell za1).trans kb3) ((hW.cell za1).trans kb4) ((hW.cell za1).trans kb5)
  have FL := fun W h1 h2 => fill_apply wa.heap.size wa (.pointer (some ⟨w.heap.size, 0, none⟩)) (.pointer (some ⟨w.heap.size + 1, 0, none⟩)) x1 x2 x3 y1 y2 y3 z1 z2 z3 G0 G1 G2 W h1 h2
  clear G0 G1 G2 H0 H1 H2 ka0 ka1 ka2 ka3 ka4 ka5 ka6 ka7 ka8 ka9 ka10 ka11 ka12 ka13 ka14 ka15 ka16 ka17 kb0 kb1 kb2 kb3 kb4 kb5
  with_reducible refine (FL _ (kb) (by simp)).mono ?_
  rintro e w1 ⟨rfl, hb⟩
  have HB1 : Below w.heap.size w w1 := HBa.trans (hb.mono (by omega))
  replace kd0 := (hb.cell za2).trans kd0
  replace ke0 := (hb.frozen za2).trans ke0
  replace kd1 := (hb.cell za2).trans kd1
  replace ke1 := (hb.frozen za2).trans ke1
  replace kd2 := (hb.cell za2).trans kd2
  replace ke2 := (hb.frozen za2).trans ke2
  replace kd3 := (hb.cell za2).trans kd3
  replace ke3 := (hb.frozen za2).trans ke3
  replace kd4 := (hb.cell za2).trans kd4
  replace ke4 := (hb.frozen za2).trans ke4
  replace kd5 := (hb.cell za2).trans kd5
  replace ke5 := (hb.frozen za2).trans ke5
  have z0 : w.heap.size + 1 + 1 < w1.heap.size := Nat.lt_of_lt_of_le za2 hb.size
  clear hb FL HBa
  go_wp2
  refine bodyPost_ret (by simp [results, Try.results47, go_sem, ext_cell, kp, *]; try rfl) rfl ?_
  exact ⟨rfl, kb⟩
end Go.Proofs.Ytdolfdmgdknboaa
