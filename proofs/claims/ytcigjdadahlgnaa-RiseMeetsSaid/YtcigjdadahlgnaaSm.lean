/-
  Words of layer 5: enclosures and what their sums and products come to (no program is mentioned here).
-/
import Derived.Test.YtcigjdadahlgnaaFm
namespace Go.Proofs.Ytcigjdadahlgnaa
open Go.RowKit
set_option linter.unusedVariables false
def spV (a b : Int) : Bool := decide (a ≤ b ∧ -3000000000 ≤ a ∧ b ≤ 3000000000)
def bV (a b c d : Int) : Bool := spV a b && spV c d
def mdL (a b : Int) : Int := if spV a b = true then a else 0
def mdH (a b : Int) : Int := if spV a b = true then b else 0
def mdE (a b : Int) : Int := if spV a b = true then 0 else 16
def cbE (a b c d : Int) : Int := if bV a b c d = true then 0 else 8
def saL (a b c d : Int) : Int := if bV a b c d = true then mdL (a + c) (b + d) else 0
def saH (a b c d : Int) : Int := if bV a b c d = true then mdH (a + c) (b + d) else 0
def saE (a b c d : Int) : Int := if bV a b c d = true then mdE (a + c) (b + d) else 8
def ssL (a b c d : Int) : Int := if bV a b c d = true then mdL (a - d) (b - c) else 0
def ssH (a b c d : Int) : Int := if bV a b c d = true then mdH (a - d) (b - c) else 0
def ssE (a b c d : Int) : Int := if bV a b c d = true then mdE (a - d) (b - c) else 8
def mi4 (p q r s : Int) : Int := min (min p q) (min r s)
def ma4 (p q r s : Int) : Int := max (max p q) (max r s)
def mn4 (a b c d : Int) : Int := mi4 (a * c) (a * d) (b * c) (b * d)
def mx4 (a b c d : Int) : Int := ma4 (a * c) (a * d) (b * c) (b * d)
def pL (a b c d : Int) : Int := mn4 a b c d / 1000000
def pH (a b c d : Int) : Int := -(-mx4 a b c d / 1000000)
def smL (a b c d : Int) : Int := if bV a b c d = true then mdL (pL a b c d) (pH a b c d) else 0
def smH (a b c d : Int) : Int := if bV a b c d = true then mdH (pL a b c d) (pH a b c d) else 0
def smE (a b c d : Int) : Int := if bV a b c d = true then mdE (pL a b c d) (pH a b c d) else 8
/-- The sign of an enclosure, and its error. -/
def sgV (a b : Int) : Int := if spV a b = true then (if 0 < a then 1 else if b < 0 then -1 else 0) else 0
def sgE (a b : Int) : Int := if spV a b = true then (if 0 < a then 0 else if b < 0 then 0 else if a = 0 ∧ b = 0 then 0 else 24) else 8
theorem spV_out {a b : Int} (h : spV a b = true) : a ≤ b ∧ -3000000000 ≤ a ∧ b ≤ 3000000000 := by simpa [spV] using h
theorem bV_out {a b c d : Int} (h : bV a b c d = true) : spV a b = true ∧ spV c d = true := by simpa [bV] using h
theorem mul4_bd {a c : Int} (h1 : -3000000000 ≤ a) (h2 : a ≤ 3000000000) (h3 : -3000000000 ≤ c) (h4 : c ≤ 3000000000) : -9000000000000000000 ≤ a * c ∧ a * c ≤ 9000000000000000000 := by
  have h := Nat.mul_le_mul (show a.natAbs ≤ 3000000000 by omega) (show c.natAbs ≤ 3000000000 by omega)
  rw [← Int.natAbs_mul] at h
  omega
theorem mi4_bd {p q r s lo hi : Int} (h1 : lo ≤ p ∧ p ≤ hi) (h2 : lo ≤ q ∧ q ≤ hi) (h3 : lo ≤ r ∧ r ≤ hi) (h4 : lo ≤ s ∧ s ≤ hi) : lo ≤ mi4 p q r s ∧ mi4 p q r s ≤ hi := by unfold mi4; omega
theorem ma4_bd {p q r s lo hi : Int} (h1 : lo ≤ p ∧ p ≤ hi) (h2 : lo ≤ q ∧ q ≤ hi) (h3 : lo ≤ r ∧ r ≤ hi) (h4 : lo ≤ s ∧ s ≤ hi) : lo ≤ ma4 p q r s ∧ ma4 p q r s ≤ hi := by unfold ma4; omega
def mi2 (p q : Int) : Int := min p q
def ma2 (p q : Int) : Int := max p q
theorem run_min2 (P : Program) (k : Array TypeId) (t : TypeId) (p q : Int) (w : World) : Sem.run P (Builtin.min_ k t #[.int .i64 p, .int .i64 q]) w = .ok (.int .i64 (mi2 p q)) w := by
  simp only [Builtin.min_, List.foldlM, Builtin.min2, Sem.run_bind, Sem.run_pure, Result.andThen_ok]
  congr 2; unfold mi2; omega
theorem run_max2 (P : Program) (k : Array TypeId) (t : TypeId) (p q : Int) (w : World) : Sem.run P (Builtin.max_ k t #[.int .i64 p, .int .i64 q]) w = .ok (.int .i64 (ma2 p q)) w := by
  simp only [Builtin.max_, List.foldlM, Builtin.max2, Sem.run_bind, Sem.run_pure, Result.andThen_ok]
  congr 2; unfold ma2; omega
theorem run_min4 (P : Program) (k : Array TypeId) (t : TypeId) (p q r s : Int) (w : World) : Sem.run P (Builtin.min_ k t #[.int .i64 p, .int .i64 q, .int .i64 r, .int .i64 s]) w = .ok (.int .i64 (mi4 p q r s)) w := by
  simp only [Builtin.min_, List.foldlM, Builtin.min2, Sem.run_bind, Sem.run_pure, Result.andThen_ok]
  congr 2; unfold mi4; omega
theorem run_max4 (P : Program) (k : Array TypeId) (t : TypeId) (p q r s : Int) (w : World) : Sem.run P (Builtin.max_ k t #[.int .i64 p, .int .i64 q, .int .i64 r, .int .i64 s]) w = .ok (.int .i64 (ma4 p q r s)) w := by
  simp only [Builtin.max_, List.foldlM, Builtin.max2, Sem.run_bind, Sem.run_pure, Result.andThen_ok]
  congr 2; unfold ma4; omega
theorem ret_sp {a b c a' b' c' : Int} (h : a = a') (k : b = b') (l : c = c') : Ending.returned (.tuple #[.agg #[.int .i64 a, .int .i64 b], .int .i64 c]) = .returned (.tuple #[.agg #[.int .i64 a', .int .i64 b'], .int .i64 c']) := by rw [h, k, l]
theorem ret_sb {a b : Bool} (h : a = b) : Ending.returned (.bool a) = .returned (.bool b) := by rw [h]
theorem ret_s1 {a b : Int} (h : a = b) : Ending.returned (.int .i64 a) = .returned (.int .i64 b) := by rw [h]
theorem ret_s2 {a b c d : Int} (h : a = c) (k : b = d) : Ending.returned (.tuple #[.int .i64 a, .int .i64 b]) = .returned (.tuple #[.int .i64 c, .int .i64 d]) := by rw [h, k]
theorem ret_s0 {a b c d : Int} (h : a = c) (k : b = d) : Ending.returned (.agg #[.int .i64 a, .int .i64 b]) = .returned (.agg #[.int .i64 c, .int .i64 d]) := by rw [h, k]
end Go.Proofs.Ytcigjdadahlgnaa
