/-
  Package vec: the closure of combine.
-/
import Derived.Test.YtmjbeplcabomdaaKu
import Derived.Test.YtmjbeplcabomdaaQh
import Derived.Test.YtmjbeplcabomdaaFx
import Derived.Test.YtmjbeplcabomdaaFn
import Derived.Deep.RegionHeld3
namespace Go.Proofs.Ytmjbeplcabomdaa
open Go.RowKit
set_option linter.unusedVariables false
set_option linter.unusedSimpArgs false

set_option maxHeartbeats 1600000 in
theorem comb_add (k gd ga gb : Nat) (a b c d X Y E : Int) (hk : k < 3) (w : World) (hd0 : gd < w.heap.size) (ha0 : ga < w.heap.size) (hb0 : gb < w.heap.size)
    (hd : w.cell? ⟨gd, 0, none⟩ = some (.func (.func 43) #[] #[]))
    (h1 : w.cell? ⟨ga, k * 2, none⟩ = some (.int .i64 a)) (h2 : w.cell? ⟨ga, k * 2 + 1, none⟩ = some (.int .i64 b))
    (h3 : w.cell? ⟨gb, k * 2, none⟩ = some (.int .i64 c)) (h4 : w.cell? ⟨gb, k * 2 + 1, none⟩ = some (.int .i64 d))
    (A1 : ∀ w, Calls Try.prog 43 #[.agg #[.int .i64 a, .int .i64 b], .agg #[.int .i64 c, .int .i64 d]] w fun e w' => e = .returned (.tuple #[.agg #[.int .i64 X, .int .i64 Y], .int .i64 E]) ∧ Below w.heap.size w w') :
    Calls Try.prog 63 #[.int .i64 k, .pointer (some ⟨gd, 0, none⟩), .pointer (some ⟨ga, 0, none⟩), .pointer (some ⟨gb, 0, none⟩)] w fun e w' => e = .returned (.tuple #[.agg #[.int .i64 X, .int .i64 Y], .int .i64 E]) ∧ Below w.heap.size w w' := by
  have kk : (k : Int) < 3 := by omega
  have xR := xRul
  have dz1 := dzA
  have dz2 := dzB
  go_enter Try.func63, Try.ntmps63
  go_wp2_with fail
  go_region_held3 (fun w' => w'.cell? ⟨gd, 0, none⟩ = some (.func (.func 43) #[] #[]) ∧ w'.cell? ⟨ga, k * 2, none⟩ = some (.int .i64 a) ∧ w'.cell? ⟨ga, k * 2 + 1, none⟩ = some (.int .i64 b) ∧ w'.cell? ⟨gb, k * 2, none⟩ = some (.int .i64 c) ∧ w'.cell? ⟨gb, k * 2 + 1, none⟩ = some (.int .i64 d)) (simp (maxDischargeDepth := 8) [go_sem, kp, *])
    ((go_at_call 43; with_reducible refine (A1 _).mono ?_; rintro e w' ⟨rfl, hb⟩; obtain ⟨l9, d9, rfl⟩ := toExt hb; clear hb))
  all_goals (try go_wp2)
  all_goals refine bodyPost_ret (by simp [results, Try.results63, go_sem, ext_cell, kp, *]; try rfl) rfl ?_
  all_goals exact ⟨rfl, kb⟩

end Go.Proofs.Ytmjbeplcabomdaa
