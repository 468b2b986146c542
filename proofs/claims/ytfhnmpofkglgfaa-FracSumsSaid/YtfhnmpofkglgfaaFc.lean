/-
  Orders and floors of the reference.
-/
import Derived.Test.YtfhnmpofkglgfaaFl2
namespace Go.Proofs.Ytfhnmpofkglgfaa
open Go.RowKit
set_option linter.unusedVariables false
set_option linter.unusedSimpArgs false

set_option maxHeartbeats 400000 in
theorem ref_low (n d : Int) (h0 : -9223372036854775808 ≤ n) (h1 : n ≤ 9223372036854775807) (h2 : 1 ≤ d) (h3 : d ≤ 9223372036854775807) (w : World) :
    Calls Try.prog 78 #[.int .i64 n, .int .i64 d] w fun e w' => e = .returned (.int .i64 (n / d)) ∧ w' = w := by
  have D : (d == 0) = false := by simp; omega
  by_cases hn : n < 0
  · rcases quo_neg n d hn (by omega) with ⟨e1, e2, e3⟩ | ⟨e1, e2, e3⟩
    · have i1 : 0 ≤ n.tmod d := by omega
      have E1 := Lib.hid e1; have E2 := Lib.hid e2; have E3 := Lib.hid e3; clear e1 e2 e3
      go_enter Try.func78, Try.ntmps78
      go_wp2
      go_ret
      exact ⟨ret_i64 (by rw [E2.out]), rfl⟩
    · have i0 := Int.emod_lt_of_pos n (show 0 < d by omega)
      have i1 : n.tmod d < 0 := by omega
      have i2 : -9223372036854775808 ≤ n.tmod d := by omega
      have i5 := ediv_ge_self n d (by omega) h2
      have i6 : n / d < 0 := Int.ediv_neg_of_neg_of_pos hn (by omega)
      have i3 : -9223372036854775807 ≤ n.tdiv d := by omega
      have i4 : n.tdiv d ≤ 0 := by omega
      have E2 := Lib.hid e2; have E3 := Lib.hid e3; clear e2 e3
      go_enter Try.func78, Try.ntmps78
      go_wp2
      go_ret
      exact ⟨ret_i64 (by rw [E2.out]; omega), rfl⟩
  · have i1 := Int.emod_nonneg n (show d ≠ 0 by omega)
    go_enter Try.func78, Try.ntmps78
    go_wp2
    go_ret
    exact ⟨rfl, rfl⟩

set_option maxHeartbeats 400000 in
theorem ref_Floor (n d : Int) (a1 : -9223372036854775808 ≤ n) (a2 : n ≤ 9223372036854775807) (a3 : -9223372036854775808 ≤ d) (a4 : d ≤ 9223372036854775807) (w : World) :
    Calls Try.prog 19 #[.agg #[.int .i64 n, .int .i64 d]] w fun e w' => e = .returned (.tuple #[.int .i64 (flV n d), .int .i64 (chkI n d)]) ∧ Below w.heap.size w w' := by
  have A1 := fun w => ref_Check n d a1 a2 a3 a4 w
  by_cases ho : okF n d = true
  · have hc : chkI n d = 0 := by rw [chkI, if_pos ho]
    have hf : flV n d = n / d := by rw [flV, if_pos ho]
    obtain ⟨o1, o2, o3, o4, o5⟩ := okF_out ho
    have A2 := fun w => ref_low n d a1 a2 o1 a4 w
    rw [hc] at A1
    rw [hc, hf]
    generalize n / d = x at *
    clear ho hc hf o5
    have dAl := dAl; have dSt := dSt; have xC := ext_cell; have xF := ext_frozen; have xS := ext_set; have xN := ext_drewN; have xD := ext_drew; have xL := ext_lt; have xE := ext_ne; have xG := ext_nr; have xX := ext_ext; have xL1 := ext_lt1; have xL2 := ext_lt2; have xL3 := ext_lt3; have xM0 := ext_le0; have xM1 := ext_le1; have xM2 := ext_le2
    go_enter Try.func19, Try.ntmps19
    go_wp2_with fail
    refine (A1 _).mono ?_
    rintro e w1c ⟨rfl, hb1c⟩
    obtain ⟨l1c, d1c, rfl⟩ := toExt hb1c
    clear hb1c
    go_wp2_with fail
    refine (A2 _).mono ?_
    rintro e w1 ⟨rfl, rfl⟩
    clear A1 A2
    go_wp2
    go_ret2
    exact ⟨rfl, by (repeat (first | with_reducible exact b0 _ | (with_reducible refine bext ?_ _ _) | (with_reducible refine below_drewN ?_ _) | (with_reducible refine Below.drew ?_) | (with_reducible refine bal ?_ _)))⟩
  · have hc : chkI n d = 8 := by rw [chkI, if_neg ho]
    have hf : flV n d = 0 := by rw [flV, if_neg ho]
    rw [hc] at A1
    rw [hc, hf]
    clear ho hc hf
    have dAl := dAl; have dSt := dSt; have xC := ext_cell; have xF := ext_frozen; have xS := ext_set; have xN := ext_drewN; have xD := ext_drew; have xL := ext_lt; have xE := ext_ne; have xG := ext_nr; have xX := ext_ext; have xL1 := ext_lt1; have xL2 := ext_lt2; have xL3 := ext_lt3; have xM0 := ext_le0; have xM1 := ext_le1; have xM2 := ext_le2
    go_enter Try.func19, Try.ntmps19
    go_wp2_with fail
    refine (A1 _).mono ?_
    rintro e w2c ⟨rfl, hb2c⟩
    obtain ⟨l2c, d2c, rfl⟩ := toExt hb2c
    clear hb2c
    go_wp2_with fail
    refine (A1 _).mono ?_
    rintro e w3c ⟨rfl, hb3c⟩
    obtain ⟨l3c, d3c, rfl⟩ := toExt hb3c
    clear hb3c
    clear A1
    go_wp2
    go_ret2
    exact ⟨rfl, by (repeat (first | with_reducible exact b0 _ | (with_reducible refine bext ?_ _ _) | (with_reducible refine below_drewN ?_ _) | (with_reducible refine Below.drew ?_) | (with_reducible refine bal ?_ _)))⟩

set_option maxHeartbeats 800000 in
theorem ref_Cmp (n1 d1 n2 d2 : Int) (a1 : -9223372036854775808 ≤ n1) (a2 : n1 ≤ 9223372036854775807) (a3 : -9223372036854775808 ≤ d1) (a4 : d1 ≤ 9223372036854775807)
    (c1 : -9223372036854775808 ≤ n2) (c2 : n2 ≤ 9223372036854775807) (c3 : -9223372036854775808 ≤ d2) (c4 : d2 ≤ 9223372036854775807) (w : World) :
    Calls Try.prog 17 #[.agg #[.int .i64 n1, .int .i64 d1], .agg #[.int .i64 n2, .int .i64 d2]] w fun e w' =>
      e = .returned (.tuple #[.int .i64 (coV n1 d1 n2 d2), .int .i64 (chk2 n1 d1 n2 d2)]) ∧ Below w.heap.size w w' := by
  have A1 := fun w => ref_Both n1 d1 n2 d2 a1 a2 a3 a4 c1 c2 c3 c4 w
  by_cases ho : okF n1 d1 = true ∧ okF n2 d2 = true
  · have hc : chk2 n1 d1 n2 d2 = 0 := by rw [chk2, if_pos ho.1, chkI, if_pos ho.2]
    obtain ⟨o1, o2, o3, o4, o5⟩ := okF_out ho.1
    obtain ⟨p1, p2, p3, p4, p5⟩ := okF_out ho.2
    have A2 := fun w => ref_Less n1 d1 n2 d2 o3 o4 o1 o2 p3 p4 p1 p2 w
    have hv : coV n1 d1 n2 d2 = cmpI (n1 * d2) (n2 * d1) := by rw [coV, if_pos ho]
    rw [hc] at A1
    rw [hc, hv]
    have hq : n1 * d2 = n2 * d1 ↔ (n1 = n2 ∧ d1 = d2) := frac_eq n1 d1 n2 d2 o1 p1 o5 p5
    clear ho hc hv o5 p5
    by_cases he : n1 = n2 ∧ d1 = d2
    · have hz : cmpI (n1 * d2) (n2 * d1) = 0 := by rw [hq.2 he]; unfold cmpI; simp
      rw [hz]
      obtain ⟨rfl, rfl⟩ := he
      clear A2 hq hz
      have dAl := dAl; have dSt := dSt; have xC := ext_cell; have xF := ext_frozen; have xS := ext_set; have xN := ext_drewN; have xD := ext_drew; have xL := ext_lt; have xE := ext_ne; have xG := ext_nr; have xX := ext_ext; have xL1 := ext_lt1; have xL2 := ext_lt2; have xL3 := ext_lt3; have xM0 := ext_le0; have xM1 := ext_le1; have xM2 := ext_le2
      go_enter Try.func17, Try.ntmps17
      go_wp2_with fail
      refine (A1 _).mono ?_
      rintro e w4c ⟨rfl, hb4c⟩
      obtain ⟨l4c, d4c, rfl⟩ := toExt hb4c
      clear hb4c
      go_wp2
      go_ret2
      exact ⟨rfl, by (repeat (first | with_reducible exact b0 _ | (with_reducible refine bext ?_ _ _) | (with_reducible refine below_drewN ?_ _) | (with_reducible refine Below.drew ?_) | (with_reducible refine bal ?_ _)))⟩
    · have hne : ¬ n1 * d2 = n2 * d1 := fun h => he (hq.1 h)
      have key (b : Bool) (r : Int) (hb : decide (n1 * d2 < n2 * d1) = b) (hz : cmpI (n1 * d2) (n2 * d1) = r) (hr : (b = true ∧ r = -1) ∨ (b = false ∧ r = 1)) : Calls Try.prog 17 #[.agg #[.int .i64 n1, .int .i64 d1], .agg #[.int .i64 n2, .int .i64 d2]] w fun e w' => e = .returned (.tuple #[.int .i64 (cmpI (n1 * d2) (n2 * d1)), .int .i64 0]) ∧ Below w.heap.size w w' := by
        rw [hb] at A2
        rw [hz]
        clear hq hne hb hz
        by_cases h1 : n1 = n2
        · subst h1
          have h2 : ¬ d1 = d2 := fun h => he ⟨rfl, h⟩
          clear he
          rcases hr with ⟨rfl, rfl⟩ | ⟨rfl, rfl⟩
          · skip
            have dAl := dAl; have dSt := dSt; have xC := ext_cell; have xF := ext_frozen; have xS := ext_set; have xN := ext_drewN; have xD := ext_drew; have xL := ext_lt; have xE := ext_ne; have xG := ext_nr; have xX := ext_ext; have xL1 := ext_lt1; have xL2 := ext_lt2; have xL3 := ext_lt3; have xM0 := ext_le0; have xM1 := ext_le1; have xM2 := ext_le2
            go_enter Try.func17, Try.ntmps17
            go_wp2_with fail
            refine (A1 _).mono ?_
            rintro e w5c ⟨rfl, hb5c⟩
            obtain ⟨l5c, d5c, rfl⟩ := toExt hb5c
            clear hb5c
            go_wp2_with fail
            refine (A2 _).mono ?_
            rintro e w6c ⟨rfl, hb6c⟩
            obtain ⟨l6c, d6c, rfl⟩ := toExt hb6c
            clear hb6c
            clear A1 A2
            go_wp2
            go_ret2
            exact ⟨rfl, by (repeat (first | with_reducible exact b0 _ | (with_reducible refine bext ?_ _ _) | (with_reducible refine below_drewN ?_ _) | (with_reducible refine Below.drew ?_) | (with_reducible refine bal ?_ _)))⟩
          · skip
            have dAl := dAl; have dSt := dSt; have xC := ext_cell; have xF := ext_frozen; have xS := ext_set; have xN := ext_drewN; have xD := ext_drew; have xL := ext_lt; have xE := ext_ne; have xG := ext_nr; have xX := ext_ext; have xL1 := ext_lt1; have xL2 := ext_lt2; have xL3 := ext_lt3; have xM0 := ext_le0; have xM1 := ext_le1; have xM2 := ext_le2
            go_enter Try.func17, Try.ntmps17
            go_wp2_with fail
            refine (A1 _).mono ?_
            rintro e w7c ⟨rfl, hb7c⟩
            obtain ⟨l7c, d7c, rfl⟩ := toExt hb7c
            clear hb7c
            go_wp2_with fail
            refine (A2 _).mono ?_
            rintro e w8c ⟨rfl, hb8c⟩
            obtain ⟨l8c, d8c, rfl⟩ := toExt hb8c
            clear hb8c
            clear A1 A2
            go_wp2
            go_ret2
            exact ⟨rfl, by (repeat (first | with_reducible exact b0 _ | (with_reducible refine bext ?_ _ _) | (with_reducible refine below_drewN ?_ _) | (with_reducible refine Below.drew ?_) | (with_reducible refine bal ?_ _)))⟩
        · clear he
          rcases hr with ⟨rfl, rfl⟩ | ⟨rfl, rfl⟩
          · skip
            have dAl := dAl; have dSt := dSt; have xC := ext_cell; have xF := ext_frozen; have xS := ext_set; have xN := ext_drewN; have xD := ext_drew; have xL := ext_lt; have xE := ext_ne; have xG := ext_nr; have xX := ext_ext; have xL1 := ext_lt1; have xL2 := ext_lt2; have xL3 := ext_lt3; have xM0 := ext_le0; have xM1 := ext_le1; have xM2 := ext_le2
            go_enter Try.func17, Try.ntmps17
            go_wp2_with fail
            refine (A1 _).mono ?_
            rintro e w9c ⟨rfl, hb9c⟩
            obtain ⟨l9c, d9c, rfl⟩ := toExt hb9c
            clear hb9c
            go_wp2_with fail
            refine (A2 _).mono ?_
            rintro e w10c ⟨rfl, hb10c⟩
            obtain ⟨l10c, d10c, rfl⟩ := toExt hb10c
            clear hb10c
            clear A1 A2
            go_wp2
            go_ret2
            exact ⟨rfl, by (repeat (first | with_reducible exact b0 _ | (with_reducible refine bext ?_ _ _) | (with_reducible refine below_drewN ?_ _) | (with_reducible refine Below.drew ?_) | (with_reducible refine bal ?_ _)))⟩
          · skip
            have dAl := dAl; have dSt := dSt; have xC := ext_cell; have xF := ext_frozen; have xS := ext_set; have xN := ext_drewN; have xD := ext_drew; have xL := ext_lt; have xE := ext_ne; have xG := ext_nr; have xX := ext_ext; have xL1 := ext_lt1; have xL2 := ext_lt2; have xL3 := ext_lt3; have xM0 := ext_le0; have xM1 := ext_le1; have xM2 := ext_le2
            go_enter Try.func17, Try.ntmps17
            go_wp2_with fail
            refine (A1 _).mono ?_
            rintro e w11c ⟨rfl, hb11c⟩
            obtain ⟨l11c, d11c, rfl⟩ := toExt hb11c
            clear hb11c
            go_wp2_with fail
            refine (A2 _).mono ?_
            rintro e w12c ⟨rfl, hb12c⟩
            obtain ⟨l12c, d12c, rfl⟩ := toExt hb12c
            clear hb12c
            clear A1 A2
            go_wp2
            go_ret2
            exact ⟨rfl, by (repeat (first | with_reducible exact b0 _ | (with_reducible refine bext ?_ _ _) | (with_reducible refine below_drewN ?_ _) | (with_reducible refine Below.drew ?_) | (with_reducible refine bal ?_ _)))⟩
      by_cases hl : n1 * d2 < n2 * d1
      · exact key true (-1) (by simpa using hl) (by unfold cmpI; rw [if_pos hl]) (Or.inl ⟨rfl, rfl⟩)
      · exact key false 1 (by simpa using hl) (by unfold cmpI; rw [if_neg hl, if_neg hne]) (Or.inr ⟨rfl, rfl⟩)
  · have hc : chk2 n1 d1 n2 d2 = 8 := by
      rw [chk2]
      by_cases h1 : okF n1 d1 = true
      · rw [if_pos h1, chkI, if_neg (fun h2 => ho ⟨h1, h2⟩)]
      · rw [if_neg h1]
    have hv : coV n1 d1 n2 d2 = 0 := by rw [coV, if_neg ho]
    rw [hc] at A1
    rw [hc, hv]
    clear ho hc hv
    have dAl := dAl; have dSt := dSt; have xC := ext_cell; have xF := ext_frozen; have xS := ext_set; have xN := ext_drewN; have xD := ext_drew; have xL := ext_lt; have xE := ext_ne; have xG := ext_nr; have xX := ext_ext; have xL1 := ext_lt1; have xL2 := ext_lt2; have xL3 := ext_lt3; have xM0 := ext_le0; have xM1 := ext_le1; have xM2 := ext_le2
    go_enter Try.func17, Try.ntmps17
    go_wp2_with fail
    refine (A1 _).mono ?_
    rintro e w13c ⟨rfl, hb13c⟩
    obtain ⟨l13c, d13c, rfl⟩ := toExt hb13c
    clear hb13c
    go_wp2_with fail
    refine (A1 _).mono ?_
    rintro e w14c ⟨rfl, hb14c⟩
    obtain ⟨l14c, d14c, rfl⟩ := toExt hb14c
    clear hb14c
    clear A1
    go_wp2
    go_ret2
    exact ⟨rfl, by (repeat (first | with_reducible exact b0 _ | (with_reducible refine bext ?_ _ _) | (with_reducible refine below_drewN ?_ _) | (with_reducible refine Below.drew ?_) | (with_reducible refine bal ?_ _)))⟩
end Go.Proofs.Ytfhnmpofkglgfaa
