/-
  frac.Floor.
-/
import Derived.Test.YtmjbeplcabomdaaFa
import Derived.Test.YtmjbeplcabomdaaFd
import Derived.Test.YtmjbeplcabomdaaFn
import Derived.Test.YtmjbeplcabomdaaFas
import Derived.Deep.DeepCutAuto
import Derived.IntWalk
import Derived.Shelf.Spec.BitsCarry
namespace Go.Proofs.Ytmjbeplcabomdaa
open Go.RowKit
set_option linter.unusedVariables false
set_option linter.unusedSimpArgs false

set_option maxHeartbeats 400000 in
theorem frac_Floor (n d : Int) (a1 : -9223372036854775808 ≤ n) (a2 : n ≤ 9223372036854775807) (a3 : -9223372036854775808 ≤ d) (a4 : d ≤ 9223372036854775807) (w : World) :
    Calls Try.prog 68 #[.agg #[.int .i64 n, .int .i64 d]] w fun e w' => e = .returned (.tuple #[.int .i64 (flV n d), .int .i64 (chkI n d)]) ∧ Below w.heap.size w w' := by
  have A1 := fun w => frac_Check n d a1 a2 a3 a4 w
  by_cases ho : okF n d = true
  · have hc : chkI n d = 0 := by rw [chkI, if_pos ho]
    have hf : flV n d = n / d := by rw [flV, if_pos ho]
    obtain ⟨o1, o2, o3, o4, o5⟩ := okF_out ho
    have A2 := fun w => frac_split n d a1 a2 o1 a4 w
    rw [hc] at A1
    rw [hc, hf]
    generalize n / d = x at *
    generalize n % d = y at *
    clear ho hc hf o5
    have dAl := dAl; have dSt := dSt; have xC := ext_cell; have xF := ext_frozen; have xS := ext_set; have xN := ext_drewN; have xD := ext_drew; have xL := ext_lt; have xE := ext_ne; have xG := ext_nr; have xX := ext_ext; have xL1 := ext_lt1; have xL2 := ext_lt2; have xL3 := ext_lt3; have xM0 := ext_le0; have xM1 := ext_le1; have xM2 := ext_le2
    go_enter Try.func68, Try.ntmps68
    go_wp2_with fail
    refine (A1 _).mono ?_
    rintro e w1c ⟨rfl, hb1c⟩
    obtain ⟨l1c, d1c, rfl⟩ := toExt hb1c
    clear hb1c
    go_wp2_with fail
    refine (A2 _).mono ?_
    rintro e w2c ⟨rfl, hb2c⟩
    obtain ⟨l2c, d2c, rfl⟩ := toExt hb2c
    clear hb2c
    clear A1 A2
    go_wp2
    go_ret2
    exact ⟨rfl, by (repeat (first | with_reducible exact b0 _ | (with_reducible refine bext ?_ _ _) | (with_reducible refine below_drewN ?_ _) | (with_reducible refine Below.drew ?_) | (with_reducible refine bal ?_ _)))⟩
  · have hc : chkI n d = 8 := by rw [chkI, if_neg ho]
    have hf : flV n d = 0 := by rw [flV, if_neg ho]
    rw [hc] at A1
    rw [hc, hf]
    clear ho hc hf
    have dAl := dAl; have dSt := dSt; have xC := ext_cell; have xF := ext_frozen; have xS := ext_set; have xN := ext_drewN; have xD := ext_drew; have xL := ext_lt; have xE := ext_ne; have xG := ext_nr; have xX := ext_ext; have xL1 := ext_lt1; have xL2 := ext_lt2; have xL3 := ext_lt3; have xM0 := ext_le0; have xM1 := ext_le1; have xM2 := ext_le2
    go_enter Try.func68, Try.ntmps68
    go_wp2_with fail
    refine (A1 _).mono ?_
    rintro e w3c ⟨rfl, hb3c⟩
    obtain ⟨l3c, d3c, rfl⟩ := toExt hb3c
    clear hb3c
    clear A1
    go_wp2
    go_ret2
    exact ⟨rfl, by (repeat (first | with_reducible exact b0 _ | (with_reducible refine bext ?_ _ _) | (with_reducible refine below_drewN ?_ _) | (with_reducible refine Below.drew ?_) | (with_reducible refine bal ?_ _)))⟩
end Go.Proofs.Ytmjbeplcabomdaa
