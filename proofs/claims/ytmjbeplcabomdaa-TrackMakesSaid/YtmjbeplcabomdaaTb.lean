/-
  The reference's cosines, walked: products, series, parts of a turn.
-/
import Derived.Test.YtmjbeplcabomdaaSc
import Derived.Test.YtmjbeplcabomdaaTa
import Derived.Test.YtmjbeplcabomdaaFo
import Derived.Test.YtmjbeplcabomdaaFs2
namespace Go.Proofs.Ytmjbeplcabomdaa
open Go.RowKit
set_option linter.unusedVariables false
set_option linter.unusedSimpArgs false

theorem castd (a b c : Nat) : ((a * b / c : Nat) : Int) = (a : Int) * b / c := by rw [Int.natCast_ediv, Int.natCast_mul]
theorem tm_eq (a b : Nat) : tmN a b = a * b / 100000000000000000 := by rw [tmN, nmul, ndiv]
theorem tm_cast (a b : Nat) : ((tmN a b : Nat) : Int) = (a : Int) * b / 100000000000000000 := by
  rw [tm_eq, castd]
  congr 1

theorem Below6 {w w' : World} {c1 c2 c3 c4 c5 c6 : Array Value} {t : TypeId} {n : Nat} (h : w' = ((((((w.alloc (.cells c1 t)).alloc (.cells c2 t)).alloc (.cells c3 t)).alloc (.cells c4 t)).alloc (.cells c5 t)).alloc (.cells c6 t)).drewN n) : Below w.heap.size w w' := by
  subst h; (repeat (first | with_reducible exact b0 _ | (with_reducible refine bext ?_ _ _) | (with_reducible refine below_drewN ?_ _) | (with_reducible refine Below.drew ?_) | (with_reducible refine bal ?_ _)))

set_option maxHeartbeats 800000 in
theorem ref5_times (a b : Nat) (ha : a ≤ 700000000000000000) (hb : b ≤ 700000000000000000) (w : World) :
    Calls Try.prog 106 #[.int .u64 a, .int .u64 b] w fun e w' => e = .returned (.int .u64 (tmN a b : Nat)) ∧ Below w.heap.size w w' := by
  have m0 := mul_bd (a : Int) b 700000000000000000 700000000000000000 (by omega) (by omega) (by omega) (by omega)
  have A1 : ∀ w, Calls Try.prog 102 #[.int .u64 a, .int .u64 b] w fun e w' => e = .returned (.agg #[.int .u64 (dg0 (a * b)), .int .u64 (dg1 (a * b)), .int .u64 (dg2 (a * b)), .int .u64 (dg3 (a * b))]) ∧ Below w.heap.size w w' := by
    intro w
    refine (ref_Product a b (by omega) (by omega) (by omega) (by omega) w).mono ?_
    rintro e w' ⟨rfl, c1, c2, c3, c4, c5, c6, n, h⟩
    exact ⟨rfl, Below6 h⟩
  have A2 := fun w => ref_Over ((a : Int) * b) 100000000000000000 m0.1 (by omega) (by omega) (by omega) w
  have hq : (0 : Int) ≤ (a : Int) * b / 100000000000000000 ∧ (a : Int) * b / 100000000000000000 ≤ 4900000000000000000 := by omega
  have A3 := fun w => ref_Small ((a : Int) * b / 100000000000000000) hq.1 (by omega) w
  have hs : (a : Int) * b / 100000000000000000 % 9223372036854775808 = (a : Int) * b / 100000000000000000 := by omega
  rw [hs] at A3
  rw [tm_cast]
  generalize (a : Int) * b / 100000000000000000 = q at *
  generalize (a : Int) * b % 100000000000000000 = r at *
  generalize fitB q = f at *
  generalize dg0 ((a : Int) * b) = x0 at *
  generalize dg1 ((a : Int) * b) = x1 at *
  generalize dg2 ((a : Int) * b) = x2 at *
  generalize dg3 ((a : Int) * b) = x3 at *
  generalize dg0 q = y0 at *
  generalize dg1 q = y1 at *
  generalize dg2 q = y2 at *
  generalize dg3 q = y3 at *
  clear m0 hs
  have dAl := dAl; have dSt := dSt; have xC := ext_cell; have xF := ext_frozen; have xS := ext_set; have xN := ext_drewN; have xD := ext_drew; have xL := ext_lt; have xE := ext_ne; have xG := ext_nr; have xX := ext_ext; have xL1 := ext_lt1; have xL2 := ext_lt2; have xL3 := ext_lt3; have xM0 := ext_le0; have xM1 := ext_le1; have xM2 := ext_le2
  go_enter Try.func106, Try.ntmps106
  go_wp2_with fail
  refine (A1 _).mono ?_
  rintro e w1c ⟨rfl, hb1c⟩
  obtain ⟨l1c, d1c, rfl⟩ := toExt hb1c
  clear hb1c
  go_wp2_with fail
  refine (A2 _).mono ?_
  rintro e w2c ⟨rfl, hb2c⟩
  obtain ⟨l2c, d2c, rfl⟩ := toExt hb2c
  clear hb2c
  go_wp2_with fail
  refine (A3 _).mono ?_
  rintro e w3c ⟨rfl, hb3c⟩
  obtain ⟨l3c, d3c, rfl⟩ := toExt hb3c
  clear hb3c
  go_wp2
  go_ret
  exact ⟨rfl, by (repeat (first | with_reducible exact b0 _ | (with_reducible refine bext ?_ _ _) | (with_reducible refine below_drewN ?_ _) | (with_reducible refine Below.drew ?_) | (with_reducible refine bal ?_ _)))⟩
end Go.Proofs.Ytmjbeplcabomdaa
