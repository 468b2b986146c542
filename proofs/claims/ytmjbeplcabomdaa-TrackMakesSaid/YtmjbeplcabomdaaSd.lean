/-
  What the code does with fractions: their enclosures, and which enclosure has one.
-/
import Derived.Test.YtmjbeplcabomdaaSc
import Derived.Test.YtmjbeplcabomdaaSm
import Derived.Test.YtmjbeplcabomdaaFa
import Derived.Test.YtmjbeplcabomdaaFd
import Derived.Test.YtmjbeplcabomdaaFn
import Derived.Test.YtmjbeplcabomdaaFd
import Derived.Deep.DeepCutAuto
import Derived.IntWalk
import Derived.Shelf.Spec.BitsCarry
namespace Go.Proofs.Ytmjbeplcabomdaa
open Go.RowKit
set_option linter.unusedVariables false
set_option linter.unusedSimpArgs false

theorem mul64I (x y : Int) (h0 : 0 ≤ x) (h1 : x < 18446744073709551616) (i0 : 0 ≤ y) (i1 : y < 18446744073709551616) (w : World) :
    Calls Try.prog 84 #[.int .u64 x, .int .u64 y] w fun e w' => e = .returned (.tuple #[.int .u64 (hiI (x * y)), .int .u64 (loI (x * y))]) ∧ w' = w := by
  have hm := Try.bits_Mul64 x.toNat y.toNat (by omega) (by omega) w
  rw [Int.toNat_of_nonneg h0, Int.toNat_of_nonneg i0] at hm
  refine hm.mono fun e w' h => ?_
  obtain ⟨rfl, rfl⟩ := h
  refine ⟨?_, rfl⟩
  unfold hiI loI
  congr 5 <;> simp [Int.toNat_of_nonneg h0, Int.toNat_of_nonneg i0]

set_option maxHeartbeats 400000 in
theorem sine_share (x y z : Int) (h0 : 0 ≤ x) (h1 : x < 18446744073709551616) (i0 : 0 ≤ y) (i1 : y < 18446744073709551616) (j0 : 0 < z) (j1 : z < 18446744073709551616) (hq : x * y < z * 18446744073709551616) (w : World) :
    Calls Try.prog 69 #[.int .u64 x, .int .u64 y, .int .u64 z] w fun e w' => e = .returned (.tuple #[.int .u64 (x * y / z), .int .u64 (x * y % z)]) ∧ ∃ n, w' = w.drewN n := by
  have A1 := fun w => mul64I x y h0 h1 i0 i1 w
  have m0 := Int.mul_nonneg h0 i0
  have e1 : hiI (x * y) * 18446744073709551616 + loI (x * y) = x * y := by unfold hiI loI; omega
  have l1 : 0 ≤ hiI (x * y) ∧ hiI (x * y) < z ∧ 0 ≤ loI (x * y) ∧ loI (x * y) < 18446744073709551616 := by unfold hiI loI; omega
  have A2 := fun w => bits_Div64 (hiI (x * y)) (loI (x * y)) z l1.1 l1.2.1 j1 l1.2.2.1 l1.2.2.2 w
  rw [e1] at A2
  generalize hiI (x * y) = p at *
  generalize loI (x * y) = q at *
  generalize x * y / z = r at *
  generalize x * y % z = s at *
  clear e1 l1 m0 hq
  go_enter Try.func69, Try.ntmps69
  go_wp2_with fail
  with_reducible refine (A1 _).mono ?_
  rintro e w1 ⟨rfl, rfl⟩
  go_wp2_with fail
  with_reducible refine (A2 _).mono ?_
  rintro e w1 ⟨rfl, n, rfl⟩
  go_wp2
  go_ret2
  exact ⟨rfl, n, rfl⟩

end Go.Proofs.Ytmjbeplcabomdaa
