/-
  frac.split: floor and rest.
-/
import Derived.Test.YtmjbeplcabomdaaFa
namespace Go.Proofs.Ytmjbeplcabomdaa
open Go.RowKit
set_option linter.unusedVariables false
set_option linter.unusedSimpArgs false

set_option maxHeartbeats 400000 in
theorem frac_split (n d : Int) (h0 : -9223372036854775808 ≤ n) (h1 : n ≤ 9223372036854775807) (h2 : 1 ≤ d) (h3 : d ≤ 9223372036854775807) (w : World) :
    Calls Try.prog 83 #[.agg #[.int .i64 n, .int .i64 d]] w fun e w' => e = .returned (.tuple #[.int .i64 (n / d), .int .i64 (n % d)]) ∧ Below w.heap.size w w' := by
  have D : (d == 0) = false := by simp; omega
  by_cases hn : n < 0
  · rcases quo_neg n d hn (by omega) with ⟨e1, e2, e3⟩ | ⟨e1, e2, e3⟩
    · have i1 : 0 ≤ n.tmod d := by omega
      have E1 := Lib.hid e1; have E2 := Lib.hid e2; have E3 := Lib.hid e3; clear e1 e2 e3
      go_enter Try.func83, Try.ntmps83
      go_wp2
      go_quiet (fail)
      go_wp2
      go_ret2
      exact ⟨ret_ii (by rw [E2.out]) (by rw [E3.out, E1.out]), below_drewN (bal (b0 _) _) _⟩
    · have i0 := Int.emod_lt_of_pos n (show 0 < d by omega)
      have i1 : n.tmod d < 0 := by omega
      have i2 : -9223372036854775808 ≤ n.tmod d := by omega
      have i5 := ediv_ge_self n d (by omega) h2
      have i6 : n / d < 0 := Int.ediv_neg_of_neg_of_pos hn (by omega)
      have i3 : -9223372036854775807 ≤ n.tdiv d := by omega
      have i4 : n.tdiv d ≤ 0 := by omega
      have E2 := Lib.hid e2; have E3 := Lib.hid e3; clear e2 e3
      go_enter Try.func83, Try.ntmps83
      go_wp2
      go_quiet (fail)
      go_wp2
      go_quiet (fail)
      go_wp2
      go_ret2
      exact ⟨ret_ii (by rw [E2.out]; omega) (by rw [E3.out]; omega), below_drewN (below_drewN (bal (b0 _) _) _) _⟩
  · have i1 := Int.emod_nonneg n (show d ≠ 0 by omega)
    go_enter Try.func83, Try.ntmps83
    go_wp2
    go_quiet (fail)
    go_wp2
    go_ret2
    exact ⟨ret_ii rfl rfl, below_drewN (bal (b0 _) _) _⟩
end Go.Proofs.Ytmjbeplcabomdaa
