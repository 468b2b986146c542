/-
  The laws' own check of two fractions.
-/
import Derived.Test.YtbckjccbihnlnaaFs2
import Derived.Test.YtbckjccbihnlnaaFff
namespace Go.Proofs.Ytbckjccbihnlnaa
open Go.RowKit
set_option linter.unusedVariables false
set_option linter.unusedSimpArgs false

set_option maxHeartbeats 800000 in
theorem law_valid (n d n2 d2 : Int) (h0 : -9223372036854775808 ≤ n) (h1 : n ≤ 9223372036854775807) (h2 : -9223372036854775808 ≤ d) (h3 : d ≤ 9223372036854775807) (i0 : -9223372036854775808 ≤ n2) (i1 : n2 ≤ 9223372036854775807) (i2 : -9223372036854775808 ≤ d2) (i3 : d2 ≤ 9223372036854775807) (w : World) :
    Calls Try.prog 19 #[.agg #[.int .i64 n, .int .i64 d], .agg #[.int .i64 n2, .int .i64 d2]] w fun e w' => e = .returned (.bool (decide (okF n d = true ∧ okF n2 d2 = true))) ∧ Below w.heap.size w w' := by
  have A1 := fun w => ref_Both n d n2 d2 h0 h1 h2 h3 i0 i1 i2 i3 w
  by_cases ho : okF n d = true ∧ okF n2 d2 = true
  · rw [show chk2 n d n2 d2 = 0 by rw [chk2, if_pos ho.1, chkI, if_pos ho.2]] at A1
    have R := Lib.hid (decide_eq_true ho)
    clear ho
    have dAl := dAl; have dSt := dSt; have xC := ext_cell; have xF := ext_frozen; have xS := ext_set; have xN := ext_drewN; have xD := ext_drew; have xL := ext_lt; have xE := ext_ne; have xG := ext_nr; have xX := ext_ext; have xL1 := ext_lt1; have xL2 := ext_lt2; have xL3 := ext_lt3; have xM0 := ext_le0; have xM1 := ext_le1; have xM2 := ext_le2
    go_enter Try.func19, Try.ntmps19
    go_wp2_with fail
    refine (A1 _).mono ?_
    rintro e w1c ⟨rfl, hb1c⟩
    obtain ⟨l1c, d1c, rfl⟩ := toExt hb1c
    clear hb1c
    go_wp2
    go_ret
    exact ⟨by rw [R.out]; rfl, by (repeat (first | with_reducible exact b0 _ | (with_reducible refine bext ?_ _ _) | (with_reducible refine below_drewN ?_ _) | (with_reducible refine Below.drew ?_) | (with_reducible refine bal ?_ _)))⟩
  · rw [show chk2 n d n2 d2 = 8 by
      rw [chk2]
      by_cases q : okF n d = true
      · rw [if_pos q, chkI, if_neg (fun k => ho ⟨q, k⟩)]
      · rw [if_neg q]] at A1
    have R := Lib.hid (decide_eq_false ho)
    clear ho
    have dAl := dAl; have dSt := dSt; have xC := ext_cell; have xF := ext_frozen; have xS := ext_set; have xN := ext_drewN; have xD := ext_drew; have xL := ext_lt; have xE := ext_ne; have xG := ext_nr; have xX := ext_ext; have xL1 := ext_lt1; have xL2 := ext_lt2; have xL3 := ext_lt3; have xM0 := ext_le0; have xM1 := ext_le1; have xM2 := ext_le2
    go_enter Try.func19, Try.ntmps19
    go_wp2_with fail
    refine (A1 _).mono ?_
    rintro e w2c ⟨rfl, hb2c⟩
    obtain ⟨l2c, d2c, rfl⟩ := toExt hb2c
    clear hb2c
    go_wp2
    go_ret
    exact ⟨by rw [R.out]; rfl, by (repeat (first | with_reducible exact b0 _ | (with_reducible refine bext ?_ _ _) | (with_reducible refine below_drewN ?_ _) | (with_reducible refine Below.drew ?_) | (with_reducible refine bal ?_ _)))⟩
/-- The sign of a difference is the order. -/
theorem sub_sign (n1 d1 n2 d2 : Int) (o1 : okF n1 d1 = true) (o2 : okF n2 d2 = true) (h : adE n1 d1 (-n2) d2 = 0) :
    (0 < adN n1 d1 (-n2) d2 ↔ 0 < coV n1 d1 n2 d2) ∧ (adN n1 d1 (-n2) d2 < 0 ↔ coV n1 d1 n2 d2 < 0) := by
  have o3 : okF (-n2) d2 = true := by rw [okF_neg1]; exact o2
  obtain ⟨a1, a2, a3, a4, a5⟩ := okF_out o1
  obtain ⟨b1, b2, b3, b4, b5⟩ := okF_out o2
  rw [adE, if_pos ⟨o1, o3⟩] at h
  rw [show adN n1 d1 (-n2) d2 = mkN (n1 * d2 + -n2 * d1) (d1 * d2) by rw [adN, if_pos ⟨o1, o3⟩], coV, if_pos ⟨o1, o2⟩]
  have hD : 0 < d1 * d2 := Int.mul_pos (by omega) (by omega)
  obtain ⟨k1, k2⟩ := mk_of _ _ hD h
  rw [show n1 * d2 + -n2 * d1 = n1 * d2 - n2 * d1 by rw [Int.neg_mul]; omega] at k1 k2 ⊢
  generalize mkN (n1 * d2 - n2 * d1) (d1 * d2) = x at *
  generalize mkD (n1 * d2 - n2 * d1) (d1 * d2) = y at *
  obtain ⟨y1, y2, y3, y4, y5⟩ := okF_out k1
  unfold cmpI
  rcases Int.lt_trichotomy (n1 * d2) (n2 * d1) with q | q | q
  · have hx : x < 0 := by
      rcases Int.lt_or_le x 0 with r | r
      · exact r
      · have := Int.mul_nonneg r (show 0 ≤ d1 * d2 by omega)
        have := Int.mul_neg_of_neg_of_pos (show n1 * d2 - n2 * d1 < 0 by omega) (show 0 < y by omega)
        omega
    rw [if_pos q]; omega
  · have hx : x = 0 := by
      have : x * (d1 * d2) = 0 := by rw [k2, q]; simp
      rcases Int.mul_eq_zero.1 this with r | r
      · exact r
      · omega
    rw [if_neg (by omega), if_pos q]; omega
  · have hx : 0 < x := by
      rcases Int.lt_or_le 0 x with r | r
      · exact r
      · have := Int.mul_nonpos_of_nonpos_of_nonneg r (show 0 ≤ d1 * d2 by omega)
        have := Int.mul_pos (show 0 < n1 * d2 - n2 * d1 by omega) (show 0 < y by omega)
        omega
    rw [if_neg (by omega), if_neg (by omega)]; omega
end Go.Proofs.Ytbckjccbihnlnaa
