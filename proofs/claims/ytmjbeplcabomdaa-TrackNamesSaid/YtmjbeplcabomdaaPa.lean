/-
  Cosines and sines of half degrees: shifts, and products of enclosures (no walk).
-/
import Derived.Test.YtmjbeplcabomdaaSv
import Derived.Test.YtmjbeplcabomdaaSn
import Derived.Test.YtmjbeplcabomdaaSb
import Derived.Test.YtmjbeplcabomdaaFa
import Derived.Test.YtmjbeplcabomdaaFd
import Derived.Test.YtmjbeplcabomdaaFov
import Derived.Test.YtmjbeplcabomdaaSl
import Derived.Test.YtmjbeplcabomdaaSo
import Derived.Test.YtmjbeplcabomdaaFn
import Derived.Shelf.Spec.BitsCarry
namespace Go.Proofs.Ytmjbeplcabomdaa
set_option linter.unusedVariables false
set_option linter.unusedSimpArgs false
/-- The enclosures of the cosine and the sine of so many half degrees. -/
def cL (k : Int) : Int := csL (4 * k) 720
def cH (k : Int) : Int := csH (4 * k) 720
def sL (k : Int) : Int := csL (4 * k - 720) 720
def sH (k : Int) : Int := csH (4 * k - 720) 720
theorem fo_tmod (k u : Int) : foN (4 * k.tmod 720 - u) 720 = foN (4 * k - u) 720 := by
  rw [← fo_turn (4 * k - u) (-(k.tdiv 720)) 720 (by omega), Int.tmod_def]
  congr 1
  omega
theorem co720 (k : Int) : coL k 720 = cL k ∧ coH k 720 = cH k ∧ siL k 720 = sL k ∧ siH k 720 = sH k ∧ coE 720 = 0 := by
  have hn : nOk 720 = true := by decide
  have t : (720 : Int).toNat = 720 := rfl
  have f0 := fo_tmod k 0
  rw [Int.sub_zero, Int.sub_zero] at f0
  unfold coL coH siL siH coE cL cH sL sH
  rw [if_pos hn, if_pos hn, if_pos hn, if_pos hn, if_pos hn, t]
  exact ⟨(cs_congr f0).1, (cs_congr f0).2, (cs_congr (fo_tmod k 720)).1, (cs_congr (fo_tmod k 720)).2, rfl⟩
end Go.Proofs.Ytmjbeplcabomdaa
