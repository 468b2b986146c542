/-
  P2.1: Check of package vec.
-/
import Derived.Test.YtmjbeplcabomdaaKu
import Derived.Test.YtmjbeplcabomdaaVg
namespace Go.Proofs.Ytmjbeplcabomdaa
open Go.RowKit
set_option linter.unusedVariables false
set_option linter.unusedSimpArgs false

set_option maxRecDepth 100000 in
set_option maxHeartbeats 6400000 in
theorem vec_Check (a b c d e f : Int) (p1 : okC a b) (p2 : okC c d) (p3 : okC e f) (w : World) :
    Calls Try.prog 32 #[.agg #[.int .i64 a, .int .i64 b, .int .i64 c, .int .i64 d, .int .i64 e, .int .i64 f]] w fun x w' => x = .returned (.int .i64 (chV a b c d e f)) ∧ Below w.heap.size w w' := by
  have CK : ∀ (W : World) (gg : Nat), gg < W.heap.size → (∀ o, o < 6 → W.cell? ⟨gg, o, none⟩ = some (.int .i64 (li [a, b, c, d, e, f] o))) →
      Calls Try.prog 48 #[.slice (some ⟨gg, 0, none⟩) 1 1] W fun x w' => x = .returned (.int .i64 (chV a b c d e f)) ∧ Below W.heap.size W w' := by
    intro W gg h1 h2
    have := vec_check (li [a, b, c, d, e, f]) gg 1 1 (by omega) (by
      intro n hn
      obtain rfl : n = 0 := by omega
      exact ⟨p1, p2, p3⟩) W h1 h2
    rw [rows1] at this
    exact this
  have L1 := fun w => vec_list a b c d e f w
  clear p1 p2 p3
  have xR := xRul
  go_enter Try.func32, Try.ntmps32
  go_wp2_with fail
  refine (L1 _).mono ?_
  rintro e w1c ⟨rfl, hb1c⟩
  obtain ⟨l1c, d1c, rfl⟩ := toExt hb1c
  clear hb1c
  go_wp2_with fail
  with_reducible refine (CK _ _ (by simp) (all6 (by simp [li]) (by simp [li]) (by simp [li]) (by simp [li]) (by simp [li]) (by simp [li]))).mono ?_
  rintro e w1 ⟨rfl, hb⟩
  obtain ⟨l1, d1, rfl⟩ := toExt hb
  clear hb CK L1
  go_wp2
  go_ret
  exact ⟨rfl, kb⟩
end Go.Proofs.Ytmjbeplcabomdaa
