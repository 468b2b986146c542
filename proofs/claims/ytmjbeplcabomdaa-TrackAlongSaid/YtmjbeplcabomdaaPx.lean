/-
  TrackApart, walked.
-/
import Derived.Test.YtmjbeplcabomdaaPm
import Derived.Test.YtmjbeplcabomdaaPb
import Derived.Test.YtmjbeplcabomdaaPj
import Derived.Test.YtmjbeplcabomdaaSn
import Derived.Test.YtmjbeplcabomdaaQj
import Derived.Test.YtmjbeplcabomdaaSc
import Derived.Test.YtmjbeplcabomdaaFe
import Derived.Test.YtmjbeplcabomdaaFov
import Derived.Test.YtmjbeplcabomdaaQe
namespace Go.Proofs.Ytmjbeplcabomdaa
open Go.RowKit
set_option linter.unusedVariables false
set_option linter.unusedSimpArgs false
theorem ftB_out2 {s : ByteArray} {ra dec t : Int} (h : ftB s ra dec t = true) : s.size ≤ 200 ∧ srE s ra dec = 0 ∧ -900000 ≤ t ∧ t ≤ 900000 := by simpa [ftB] using h
theorem tk_in2 {t : Int} (h1 : -900000 ≤ t) (h2 : t ≤ 900000) : tkB t = true := by simp [tkB]; omega
set_option maxHeartbeats 400000 in
theorem ref6_Common (a b c d : Int) (w : World) : Calls Try.prog 24 #[.agg #[.int .i64 a, .int .i64 b], .agg #[.int .i64 c, .int .i64 d]] w fun x w' => x = .returned (.bool (decide (a ≤ d ∧ c ≤ b))) ∧ Below w.heap.size w w' := by
  go_enter Try.func24, Try.ntmps24
  go_wp2
  all_goals go_ret
  all_goals exact ⟨ret_sb (by simp [*]; try omega), by (repeat (first | with_reducible exact b0 _ | (with_reducible refine bext ?_ _ _) | (with_reducible refine below_drewN ?_ _) | (with_reducible refine Below.drew ?_) | (with_reducible refine bal ?_ _)))⟩

end Go.Proofs.Ytmjbeplcabomdaa
