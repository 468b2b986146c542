/-
  Directions in numbers: their dot product with themselves (no walk).
-/
import Derived.Test.YtmjbeplcabomdaaPa
import Derived.Test.YtmjbeplcabomdaaSm
import Derived.Test.YtmjbeplcabomdaaFn
namespace Go.Proofs.Ytmjbeplcabomdaa
set_option linter.unusedVariables false
set_option linter.unusedSimpArgs false
/-- The direction with a declination and a longitude (both in half degrees). -/
def dxL (d l : Int) : Int := smL (cL d) (cH d) (cL l) (cH l)
def dxH (d l : Int) : Int := smH (cL d) (cH d) (cL l) (cH l)
def dyL (d l : Int) : Int := smL (cL d) (cH d) (sL l) (sH l)
def dyH (d l : Int) : Int := smH (cL d) (cH d) (sL l) (sH l)
end Go.Proofs.Ytmjbeplcabomdaa
