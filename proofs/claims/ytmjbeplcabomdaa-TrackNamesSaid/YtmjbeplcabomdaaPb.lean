/-
  Directions in numbers: their dot product with themselves (no walk).
-/
import Derived.Test.YtmjbeplcabomdaaPa
import Derived.Test.YtmjbeplcabomdaaSo
import Derived.Test.YtmjbeplcabomdaaFn
namespace Go.Proofs.Ytmjbeplcabomdaa
set_option linter.unusedVariables false
set_option linter.unusedSimpArgs false
/-- The direction with a declination and a longitude (both in half degrees). -/
def dxL (d l : Int) : Int := smL (cL d) (cH d) (cL l) (cH l)
def dxH (d l : Int) : Int := smH (cL d) (cH d) (cL l) (cH l)
def dyL (d l : Int) : Int := smL (cL d) (cH d) (sL l) (sH l)
def dyH (d l : Int) : Int := smH (cL d) (cH d) (sL l) (sH l)
/-- A sum of products, and its error. -/
def suR : List (Int × Int × Int × Int) → Int → Int → Int × Int × Int
  | [], l, h => (l, h, 0)
  | (a, b, c, d) :: r, l, h => if smE a b c d = 0 then (if saE l h (smL a b c d) (smH a b c d) = 0 then suR r (saL l h (smL a b c d) (smH a b c d)) (saH l h (smL a b c d) (smH a b c d)) else (0, 0, saE l h (smL a b c d) (smH a b c d))) else (0, 0, smE a b c d)
end Go.Proofs.Ytmjbeplcabomdaa
