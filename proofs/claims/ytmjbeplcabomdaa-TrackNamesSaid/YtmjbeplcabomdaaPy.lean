/-
  TrackNames, part by part: joined.
-/
import Derived.Test.YtmjbeplcabomdaaPyb
import Derived.Test.YtmjbeplcabomdaaPyc
import Derived.Test.YtmjbeplcabomdaaPyd
import Derived.Test.YtmjbeplcabomdaaPye
import Derived.Test.YtmjbeplcabomdaaPyf
import Derived.Test.YtmjbeplcabomdaaPyg
import Derived.Test.YtmjbeplcabomdaaPyh
import Derived.Test.YtmjbeplcabomdaaPyi
import Derived.Test.YtmjbeplcabomdaaPyj
import Derived.Test.YtmjbeplcabomdaaPyk
import Derived.Test.YtmjbeplcabomdaaPyl
namespace Go.Proofs.Ytmjbeplcabomdaa
open Go.RowKit
set_option linter.unusedVariables false
set_option linter.unusedSimpArgs false
set_option maxRecDepth 100000 in
set_option maxHeartbeats 25600000 in
theorem names6 (w : World) : Calls Try.prog 3 #[] w fun x w' => x = .returned (.bool true) ∧ Below w.heap.size w w' := by
  have h : Sg0 w := sg0 w (sg1 w (sg2 w (sg3 w (sg4 w (sg5 w (sg6 w (sg7 w (sg8 w (sg9 w (sg10 w))))))))))
  go_enter Try.func3, Try.ntmps3
  exact h w _ _ _ _ _ _ _ _ _ _ _ _ _ _ _ _ _ _ _ _ _ _ _ _ _ _ _ _ _ _ _ _ _ _ _ _ _ _ _ _ _ _ _ _ _ _ _ _ _ _ _ _ _ _ _ _ _ _ _ _ _ _ _ _ _ _ _ _ _ _ _ _ _ _ _ _ _ _ _ _ _ _ _ _ _ _ _ _ _ _ _ _ _ _ _ _ _ _ _ _ _ _ _ _ _ _ _ _ _ _ _ _ _ _ _ _ _ _ _ _ _ _ _ _ _ _ _ _ _ _ _ _ _ _ _ _ _ _ _ _ _ _ _ _ _ _ _ _ _ _ _ _ _ _ _ _ _ _ _ _ _ _ _ _ _ _ _ _ _ _ _ _ _ _ _ _ _ _ _ _ _ _ _ _ _ _ _ _ _ _ _ _ _ _ _ _ _ _ _ _ _ _ _ _ _ _ _ _ _ _ _ _ _ _ _ _ _ _ _ _ _ _ _ _ _ _ _ _ _ _ _ _ _ _ _ _ _ _ _ _ _ _ _ _ _ _ _ _ _ _ _ _ _ _ _ _ _ _ _ _ _ _ _ _ _ _ _ _ _ _ _ _ _ _ _ _ _ _ _ _ _ _ _ _ _ _ _ _ _ _ _ _ _ _ _ _ _ _ _ _ _ _ _ _ _ _ _ _ _ _ _ _ _ _ _ _ _ _ _ _ _ _ _ _ _ _ _ _ _ _ _ _ _ _ _ _ _ _ _ _ _ _ _ _ _ _ _ _ _ _ _ _ _ _ (Below.refl _ _)
end Go.Proofs.Ytmjbeplcabomdaa
