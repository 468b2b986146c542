/-
  The opposite of a vector, by the reference.
-/
import Derived.Lib.Hide
import Derived.Test.YtlijkebdaalldaaKu
import Derived.Test.YtlijkebdaalldaaMA
import Derived.Deep.RegionHeld3
namespace Go.Proofs.Ytlijkebdaalldaa
open Go.RowKit
set_option linter.unusedVariables false
set_option linter.unusedSimpArgs false

set_option maxHeartbeats 400000 in
theorem ref_NegQ (n d : Int) (a1 : -9223372036854775807 ≤ n) (a2 : n ≤ 9223372036854775807) (w : World) :
    Calls Try.prog 61 #[.agg #[.int .i64 n, .int .i64 d]] w fun e w' => e = .returned (.agg #[.int .i64 (-n), .int .i64 d]) ∧ Below w.heap.size w w' := by
  go_enter Try.func61, Try.ntmps61
  go_wp2
  go_returns
  exact ⟨rfl, kb⟩

set_option maxHeartbeats 1600000 in
theorem ref2_NegQ (a b c d e f : Int) (o1 : okV a b c d e f = true) (w : World) :
    Calls Try.prog 30 #[.agg #[.int .i64 a, .int .i64 b, .int .i64 c, .int .i64 d, .int .i64 e, .int .i64 f]] w fun x w' => x = .returned (.agg #[.int .i64 (-a), .int .i64 b, .int .i64 (-c), .int .i64 d, .int .i64 (-e), .int .i64 f]) ∧ Below w.heap.size w w' := by
  obtain ⟨h1, h2, h3⟩ := okV_in o1
  obtain ⟨x1, x2, x3, x4, x5⟩ := okF_out h1
  obtain ⟨y1, y2, y3, y4, y5⟩ := okF_out h2
  obtain ⟨z1, z2, z3, z4, z5⟩ := okF_out h3
  have N1 := fun w => ref_NegQ a b (by omega) (by omega) w
  have N2 := fun w => ref_NegQ c d (by omega) (by omega) w
  have N3 := fun w => ref_NegQ e f (by omega) (by omega) w
  clear o1 h1 h2 h3 x1 x2 x3 x4 x5 y1 y2 y3 y4 y5 z1 z2 z3 z4 z5
  generalize -a = A at *
  generalize -c = C at *
  generalize -e = E at *
  have xR := xRul
  go_enter Try.func30, Try.ntmps30
  go_wp2_with fail
  go_region_held3 (fun w' => w'.cell? ⟨w.heap.size, 0, none⟩ = some (.int .i64 a) ∧ w'.cell? ⟨w.heap.size, 1, none⟩ = some (.int .i64 b) ∧ w'.cell? ⟨w.heap.size, 2, none⟩ = some (.int .i64 c) ∧ w'.cell? ⟨w.heap.size, 3, none⟩ = some (.int .i64 d) ∧ w'.cell? ⟨w.heap.size, 4, none⟩ = some (.int .i64 e) ∧ w'.cell? ⟨w.heap.size, 5, none⟩ = some (.int .i64 f)) (simp (maxDischargeDepth := 8) [go_sem, kp, *])
    ((go_at_call 61; (first | with_reducible refine (N1 _).mono ?_ | with_reducible refine (N2 _).mono ?_ | with_reducible refine (N3 _).mono ?_); rintro e w' ⟨rfl, hb⟩; obtain ⟨l9, d9, rfl⟩ := toExt hb; clear hb))
  all_goals (try go_wp2)
  all_goals refine bodyPost_ret (by simp [results, Try.results30, go_sem, ext_cell, kp, *]; try rfl) rfl ?_
  all_goals exact ⟨rfl, kb⟩

end Go.Proofs.Ytlijkebdaalldaa
