/-
  Plain words for vectors: valid coordinates, first errors, results with an error; bounds of products and sums of fractions; sums of products in two ways of reckoning; errors are small numbers.
-/
import Derived.Test.YtmjbeplcabomdaaKu
import Derived.Test.YtmjbeplcabomdaaFff
import Derived.Handy
import Derived.IntWalk
namespace Go.Proofs.Ytmjbeplcabomdaa
set_option linter.unusedVariables false

/-- A coordinate's numbers are of 64 bits. -/
def okC (n d : Int) : Prop := -9223372036854775808 ≤ n ∧ n ≤ 9223372036854775807 ∧ -9223372036854775808 ≤ d ∧ d ≤ 9223372036854775807
/-- A vector is valid. -/
def okV (a b c d e f : Int) : Bool := okF a b && (okF c d && okF e f)
def chV (a b c d e f : Int) : Int := if okV a b c d e f = true then 0 else 8
/-- The first of three errors. -/
def fsI (a b c : Int) : Int := if a = 0 then (if b = 0 then c else b) else a
/-- What is handed back where the error is E. -/
def vz (E x : Int) : Int := if E = 0 then x else 0

theorem okV_in {a b c d e f : Int} (h : okV a b c d e f = true) : okF a b = true ∧ okF c d = true ∧ okF e f = true := by
  unfold okV at h; simp at h; exact h
theorem chk2_ok {a b c d : Int} (h : okF a b = true) (k : okF c d = true) : chk2 a b c d = 0 := by unfold chk2 chkI; rw [if_pos h, if_pos k]
theorem vz0 (x : Int) : vz 0 x = x := by unfold vz; rw [if_pos rfl]
theorem vzn {E : Int} (h : ¬ E = 0) (x : Int) : vz E x = 0 := by unfold vz; rw [if_neg h]
/-- The errors of sums, differences and multiples. -/
def vaE (a b c d e f g h i j k l : Int) : Int := if okV a b c d e f = true ∧ okV g h i j k l = true then fsI (adE a b g h) (adE c d i j) (adE e f k l) else 8
open Go.RowKit

end Go.Proofs.Ytmjbeplcabomdaa
