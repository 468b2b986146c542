/-
  The law on the field, walked: where the fractions are not valid.
-/
import Derived.Test.YtbckjccbihnlnaaFan
import Derived.Test.YtbckjccbihnlnaaFva
import Derived.Test.YtbckjccbihnlnaaFxp
namespace Go.Proofs.Ytbckjccbihnlnaa
open Go.RowKit
set_option linter.unusedVariables false
set_option linter.unusedSimpArgs false

set_option maxRecDepth 100000 in
set_option maxHeartbeats 1600000 in
theorem field_bad (n1 d1 n2 d2 : Int) (a1 : -9223372036854775808 ≤ n1) (a2 : n1 ≤ 9223372036854775807) (a3 : -9223372036854775808 ≤ d1) (a4 : d1 ≤ 9223372036854775807)
    (c1 : -9223372036854775808 ≤ n2) (c2 : n2 ≤ 9223372036854775807) (c3 : -9223372036854775808 ≤ d2) (c4 : d2 ≤ 9223372036854775807) (ho : ¬ (okF n1 d1 = true ∧ okF n2 d2 = true)) (w : World) :
    Calls Try.prog 4 #[.agg #[.int .i64 n1, .int .i64 d1], .agg #[.int .i64 n2, .int .i64 d2]] w fun e w' => e = .returned (.bool true) ∧ Below w.heap.size w w' := by
  have A1 := fun w => law_valid n1 d1 n2 d2 a1 a2 a3 a4 c1 c2 c3 c4 w
  rw [decide_eq_false ho] at A1
  have A2 := fun w => law_alive w
  clear ho a1 a2 a3 a4 c1 c2 c3 c4
  have dAl := dAl; have dSt := dSt; have xC := ext_cell; have xF := ext_frozen; have xS := ext_set; have xN := ext_drewN; have xD := ext_drew; have xL := ext_lt; have xE := ext_ne; have xG := ext_nr; have xX := ext_ext; have xL1 := ext_lt1; have xL2 := ext_lt2; have xL3 := ext_lt3; have xM0 := ext_le0; have xM1 := ext_le1; have xM2 := ext_le2
  go_enter Try.func4, Try.ntmps4
  go_wp2_with fail
  refine (A1 _).mono ?_
  rintro e w1c ⟨rfl, hb1c⟩
  obtain ⟨l1c, d1c, rfl⟩ := toExt hb1c
  clear hb1c
  go_wp2_with fail
  refine (A2 _).mono ?_
  rintro e w2c ⟨rfl, hb2c⟩
  obtain ⟨l2c, d2c, rfl⟩ := toExt hb2c
  clear hb2c
  clear A1 A2
  go_wp2
  go_ret
  exact ⟨rfl, by (repeat (first | with_reducible exact b0 _ | (with_reducible refine bext ?_ _ _) | (with_reducible refine below_drewN ?_ _) | (with_reducible refine Below.drew ?_) | (with_reducible refine bal ?_ _)))⟩
end Go.Proofs.Ytbckjccbihnlnaa
