/-
  TrackCircle, walked.
-/
import Derived.Test.YtmjbeplcabomdaaPt
namespace Go.Proofs.Ytmjbeplcabomdaa
open Go.RowKit
set_option linter.unusedVariables false
theorem circle6 (s : ByteArray) (ra dec t : Int) (w : World) :
    Calls Try.prog 5 #[.agg #[.string s, .int .i64 ra, .int .i64 dec], .int .i64 t] w fun x w' => x = .returned (.bool true) ∧ Below w.heap.size w w' := by
  by_cases h : ftB s ra dec t = true
  · exact circle6_main s ra dec t h w
  · exact circle6_out s ra dec t (by simpa using h) w
end Go.Proofs.Ytmjbeplcabomdaa
