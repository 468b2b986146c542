/-
  The functions of package frac that reckon with fractions: fractions, products, quotients.
-/
import Derived.Test.YtdolfdmgdknboaaFx
import Derived.Test.YtdolfdmgdknboaaFnp
namespace Go.Proofs.Ytdolfdmgdknboaa
open Go.RowKit
set_option linter.unusedVariables false
set_option linter.unusedSimpArgs false

set_option maxHeartbeats 400000 in
theorem frac_Mul (n1 d1 n2 d2 : Int) (a1 : -9223372036854775808 ≤ n1) (a2 : n1 ≤ 9223372036854775807) (a3 : -9223372036854775808 ≤ d1) (a4 : d1 ≤ 9223372036854775807)
    (c1 : -9223372036854775808 ≤ n2) (c2 : n2 ≤ 9223372036854775807) (c3 : -9223372036854775808 ≤ d2) (c4 : d2 ≤ 9223372036854775807) (w : World) :
    Calls Try.prog 104 #[.agg #[.int .i64 n1, .int .i64 d1], .agg #[.int .i64 n2, .int .i64 d2]] w fun e w' =>
      e = .returned (.tuple #[.agg #[.int .i64 (muN n1 d1 n2 d2), .int .i64 (muD n1 d1 n2 d2)], .int .i64 (muE n1 d1 n2 d2)]) ∧ Below w.heap.size w w' := by
  have A1 := fun w => frac_checkBoth n1 d1 n2 d2 a1 a2 a3 a4 c1 c2 c3 c4 w
  by_cases ho : okF n1 d1 = true ∧ okF n2 d2 = true
  · have hc : chk2 n1 d1 n2 d2 = 0 := by rw [chk2, if_pos ho.1, chkI, if_pos ho.2]
    rw [hc] at A1
    obtain ⟨o1, o2, o3, o4, o5⟩ := okF_out ho.1
    obtain ⟨p1, p2, p3, p4, p5⟩ := okF_out ho.2
    have A2 := fun w => frac_product n1 d1 n2 d2 o3 o4 o1 o2 p3 p4 p1 p2 o5 p5 w
    have r1 : muN n1 d1 n2 d2 = mkN (n1 * n2) (d1 * d2) := by rw [muN, if_pos ho]
    have r2 : muD n1 d1 n2 d2 = mkD (n1 * n2) (d1 * d2) := by rw [muD, if_pos ho]
    have r3 : muE n1 d1 n2 d2 = mkE (n1 * n2) (d1 * d2) := by rw [muE, if_pos ho]
    rw [r1, r2, r3]
    generalize mkN (n1 * n2) (d1 * d2) = x at *
    generalize mkD (n1 * n2) (d1 * d2) = y at *
    generalize mkE (n1 * n2) (d1 * d2) = z at *
    clear ho hc r1 r2 r3 o1 o2 o3 o4 o5 p1 p2 p3 p4 p5
    have dAl := dAl; have dSt := dSt; have xC := ext_cell; have xF := ext_frozen; have xS := ext_set; have xN := ext_drewN; have xD := ext_drew; have xL := ext_lt; have xE := ext_ne; have xG := ext_nr; have xX := ext_ext; have xL1 := ext_lt1; have xL2 := ext_lt2; have xL3 := ext_lt3; have xM0 := ext_le0; have xM1 := ext_le1; have xM2 := ext_le2
    go_enter Try.func104, Try.ntmps104
    go_wp2_with fail
    refine (A1 _).mono ?_
    rintro e w1c ⟨rfl, hb1c⟩
    obtain ⟨l1c, d1c, rfl⟩ := toExt hb1c
    clear hb1c
    go_wp2_with fail
    refine (A2 _).mono ?_
    rintro e w2c ⟨rfl, hb2c⟩
    obtain ⟨l2c, d2c, rfl⟩ := toExt hb2c
    clear hb2c
    clear A1 A2
    go_wp2
    refine bodyPost_ret (by simp [results, Try.results104, go_sem, ext_ext, ext_cell]; try rfl) rfl ?_
    exact ⟨rfl, by (repeat (first | with_reducible exact b0 _ | (with_reducible refine bext ?_ _ _) | (with_reducible refine below_drewN ?_ _) | (with_reducible refine Below.drew ?_) | (with_reducible refine bal ?_ _)))⟩
  · have hc : chk2 n1 d1 n2 d2 = 8 := by
      rw [chk2]
      by_cases h1 : okF n1 d1 = true
      · rw [if_pos h1, chkI, if_neg (fun h2 => ho ⟨h1, h2⟩)]
      · rw [if_neg h1]
    rw [hc] at A1
    have r1 : muN n1 d1 n2 d2 = 0 := by rw [muN, if_neg ho]
    have r2 : muD n1 d1 n2 d2 = 0 := by rw [muD, if_neg ho]
    have r3 : muE n1 d1 n2 d2 = 8 := by rw [muE, if_neg ho]
    rw [r1, r2, r3]
    clear ho hc r1 r2 r3
    have dAl := dAl; have dSt := dSt; have xC := ext_cell; have xF := ext_frozen; have xS := ext_set; have xN := ext_drewN; have xD := ext_drew; have xL := ext_lt; have xE := ext_ne; have xG := ext_nr; have xX := ext_ext; have xL1 := ext_lt1; have xL2 := ext_lt2; have xL3 := ext_lt3; have xM0 := ext_le0; have xM1 := ext_le1; have xM2 := ext_le2
    go_enter Try.func104, Try.ntmps104
    go_wp2_with fail
    refine (A1 _).mono ?_
    rintro e w3c ⟨rfl, hb3c⟩
    obtain ⟨l3c, d3c, rfl⟩ := toExt hb3c
    clear hb3c
    clear A1
    go_wp2
    refine bodyPost_ret (by simp [results, Try.results104, go_sem, ext_ext, ext_cell]; try rfl) rfl ?_
    exact ⟨rfl, by (repeat (first | with_reducible exact b0 _ | (with_reducible refine bext ?_ _ _) | (with_reducible refine below_drewN ?_ _) | (with_reducible refine Below.drew ?_) | (with_reducible refine bal ?_ _)))⟩

set_option maxHeartbeats 400000 in
theorem frac_Div (n1 d1 n2 d2 : Int) (a1 : -9223372036854775808 ≤ n1) (a2 : n1 ≤ 9223372036854775807) (a3 : -9223372036854775808 ≤ d1) (a4 : d1 ≤ 9223372036854775807)
    (c1 : -9223372036854775808 ≤ n2) (c2 : n2 ≤ 9223372036854775807) (c3 : -9223372036854775808 ≤ d2) (c4 : d2 ≤ 9223372036854775807) (w : World) :
    Calls Try.prog 107 #[.agg #[.int .i64 n1, .int .i64 d1], .agg #[.int .i64 n2, .int .i64 d2]] w fun e w' =>
      e = .returned (.tuple #[.agg #[.int .i64 (dvN n1 d1 n2 d2), .int .i64 (dvD n1 d1 n2 d2)], .int .i64 (dvE n1 d1 n2 d2)]) ∧ Below w.heap.size w w' := by
  have A1 := fun w => frac_checkBoth n1 d1 n2 d2 a1 a2 a3 a4 c1 c2 c3 c4 w
  by_cases ho : okF n1 d1 = true ∧ okF n2 d2 = true
  · have hc : chk2 n1 d1 n2 d2 = 0 := by rw [chk2, if_pos ho.1, chkI, if_pos ho.2]
    rw [hc] at A1
    obtain ⟨o1, o2, o3, o4, o5⟩ := okF_out ho.1
    obtain ⟨p1, p2, p3, p4, p5⟩ := okF_out ho.2
    by_cases hz : n2 = 0
    · have r1 : dvN n1 d1 n2 d2 = 0 := by rw [dvN, if_pos ho, if_pos hz]
      have r2 : dvD n1 d1 n2 d2 = 0 := by rw [dvD, if_pos ho, if_pos hz]
      have r3 : dvE n1 d1 n2 d2 = 18 := by rw [dvE, if_pos ho, if_pos hz]
      rw [r1, r2, r3]
      subst hz
      clear ho hc r1 r2 r3 o1 o2 o3 o4 o5 p1 p2 p3 p4 p5
      have dAl := dAl; have dSt := dSt; have xC := ext_cell; have xF := ext_frozen; have xS := ext_set; have xN := ext_drewN; have xD := ext_drew; have xL := ext_lt; have xE := ext_ne; have xG := ext_nr; have xX := ext_ext; have xL1 := ext_lt1; have xL2 := ext_lt2; have xL3 := ext_lt3; have xM0 := ext_le0; have xM1 := ext_le1; have xM2 := ext_le2
      go_enter Try.func107, Try.ntmps107
      go_wp2_with fail
      refine (A1 _).mono ?_
      rintro e w4c ⟨rfl, hb4c⟩
      obtain ⟨l4c, d4c, rfl⟩ := toExt hb4c
      clear hb4c
      clear A1
      go_wp2
      refine bodyPost_ret (by simp [results, Try.results107, go_sem, ext_ext, ext_cell]; try rfl) rfl ?_
      exact ⟨rfl, by (repeat (first | with_reducible exact b0 _ | (with_reducible refine bext ?_ _ _) | (with_reducible refine below_drewN ?_ _) | (with_reducible refine Below.drew ?_) | (with_reducible refine bal ?_ _)))⟩
    · have hf := flip_ok n2 d2 ho.2 hz
      obtain ⟨f1, f2, f3, f4, f5⟩ := okF_out hf
      have A2 := fun w => frac_flip n2 d2 (by omega) c2 p1 c4 w
      have A3 := fun w => frac_product n1 d1 (flN n2 d2) (absI n2) o3 o4 o1 o2 f3 f4 f1 f2 o5 f5 w
      have r1 : dvN n1 d1 n2 d2 = mkN (n1 * flN n2 d2) (d1 * absI n2) := by rw [dvN, if_pos ho, if_neg hz]
      have r2 : dvD n1 d1 n2 d2 = mkD (n1 * flN n2 d2) (d1 * absI n2) := by rw [dvD, if_pos ho, if_neg hz]
      have r3 : dvE n1 d1 n2 d2 = mkE (n1 * flN n2 d2) (d1 * absI n2) := by rw [dvE, if_pos ho, if_neg hz]
      rw [r1, r2, r3]
      generalize mkN (n1 * flN n2 d2) (d1 * absI n2) = x at *
      generalize mkD (n1 * flN n2 d2) (d1 * absI n2) = y at *
      generalize mkE (n1 * flN n2 d2) (d1 * absI n2) = z at *
      generalize flN n2 d2 = u at *
      generalize absI n2 = v at *
      have hz' : (n2 == 0) = false := by simpa using hz
      clear ho hc r1 r2 r3 o1 o2 o3 o4 o5 p1 p2 p3 p4 p5 hf f1 f2 f3 f4 f5 hz
      have dAl := dAl; have dSt := dSt; have xC := ext_cell; have xF := ext_frozen; have xS := ext_set; have xN := ext_drewN; have xD := ext_drew; have xL := ext_lt; have xE := ext_ne; have xG := ext_nr; have xX := ext_ext; have xL1 := ext_lt1; have xL2 := ext_lt2; have xL3 := ext_lt3; have xM0 := ext_le0; have xM1 := ext_le1; have xM2 := ext_le2
      go_enter Try.func107, Try.ntmps107
      go_wp2_with fail
      refine (A1 _).mono ?_
      rintro e w5c ⟨rfl, hb5c⟩
      obtain ⟨l5c, d5c, rfl⟩ := toExt hb5c
      clear hb5c
      clear A1
      go_wp2_with fail
      go_region_held3 (fun w' => w'.cell? ⟨w.heap.size, 0, none⟩ = some (.int .i64 n1) ∧ w'.cell? ⟨w.heap.size, 1, none⟩ = some (.int .i64 d1) ∧ w'.cell? ⟨w.heap.size + 1, 0, none⟩ = some (.int .i64 n2) ∧ w'.cell? ⟨w.heap.size + 1, 1, none⟩ = some (.int .i64 d2)) (simp (maxDischargeDepth := 8) [go_sem, World.cell?_alloc_past, ltk2, ltk3, ltk4, ltk5, ltk6, ltk7, ltk8, ltk9, *])
        ((first
          | (go_at_call 126; refine (A2 _).mono ?_; rintro e w' ⟨rfl, hb⟩; obtain ⟨l, d, rfl⟩ := toExt hb; clear hb)
          | (go_at_call 124; refine (A3 _).mono ?_; rintro e w' ⟨rfl, hb⟩; obtain ⟨l, d, rfl⟩ := toExt hb; clear hb)))
      go_wp2
      refine bodyPost_ret (by simp [results, Try.results107, go_sem, ext_ext, ext_cell]; try rfl) rfl ?_
      exact ⟨rfl, by (repeat (first | with_reducible exact b0 _ | (with_reducible refine bext ?_ _ _) | (with_reducible refine below_drewN ?_ _) | (with_reducible refine Below.drew ?_) | (with_reducible refine bal ?_ _)))⟩
  · have hc : chk2 n1 d1 n2 d2 = 8 := by
      rw [chk2]
      by_cases h1 : okF n1 d1 = true
      · rw [if_pos h1, chkI, if_neg (fun h2 => ho ⟨h1, h2⟩)]
      · rw [if_neg h1]
    rw [hc] at A1
    have r1 : dvN n1 d1 n2 d2 = 0 := by rw [dvN, if_neg ho]
    have r2 : dvD n1 d1 n2 d2 = 0 := by rw [dvD, if_neg ho]
    have r3 : dvE n1 d1 n2 d2 = 8 := by rw [dvE, if_neg ho]
    rw [r1, r2, r3]
    clear ho hc r1 r2 r3
    have dAl := dAl; have dSt := dSt; have xC := ext_cell; have xF := ext_frozen; have xS := ext_set; have xN := ext_drewN; have xD := ext_drew; have xL := ext_lt; have xE := ext_ne; have xG := ext_nr; have xX := ext_ext; have xL1 := ext_lt1; have xL2 := ext_lt2; have xL3 := ext_lt3; have xM0 := ext_le0; have xM1 := ext_le1; have xM2 := ext_le2
    go_enter Try.func107, Try.ntmps107
    go_wp2_with fail
    refine (A1 _).mono ?_
    rintro e w6c ⟨rfl, hb6c⟩
    obtain ⟨l6c, d6c, rfl⟩ := toExt hb6c
    clear hb6c
    clear A1
    go_wp2
    refine bodyPost_ret (by simp [results, Try.results107, go_sem, ext_ext, ext_cell]; try rfl) rfl ?_
    exact ⟨rfl, by (repeat (first | with_reducible exact b0 _ | (with_reducible refine bext ?_ _ _) | (with_reducible refine below_drewN ?_ _) | (with_reducible refine Below.drew ?_) | (with_reducible refine bal ?_ _)))⟩

end Go.Proofs.Ytdolfdmgdknboaa
