/-
  The quotient of the reference.
-/
import Derived.Test.YtlijkebdaalldaaFxq
namespace Go.Proofs.Ytlijkebdaalldaa
open Go.RowKit
set_option linter.unusedVariables false
set_option linter.unusedSimpArgs false

set_option maxRecDepth 100000 in
set_option maxHeartbeats 1600000 in
theorem ref_Div (n1 d1 n2 d2 : Int) (a1 : -9223372036854775808 ≤ n1) (a2 : n1 ≤ 9223372036854775807) (a3 : -9223372036854775808 ≤ d1) (a4 : d1 ≤ 9223372036854775807)
    (c1 : -9223372036854775808 ≤ n2) (c2 : n2 ≤ 9223372036854775807) (c3 : -9223372036854775808 ≤ d2) (c4 : d2 ≤ 9223372036854775807) (w : World) :
    Calls Try.prog 82 #[.agg #[.int .i64 n1, .int .i64 d1], .agg #[.int .i64 n2, .int .i64 d2]] w fun e w' =>
      e = .returned (.tuple #[.agg #[.int .i64 (dvN n1 d1 n2 d2), .int .i64 (dvD n1 d1 n2 d2)], .int .i64 (dvE n1 d1 n2 d2)]) ∧ Below w.heap.size w w' := by
  have A1 := fun w => ref_Both n1 d1 n2 d2 a1 a2 a3 a4 c1 c2 c3 c4 w
  by_cases ho : okF n1 d1 = true ∧ okF n2 d2 = true
  · have hc : chk2 n1 d1 n2 d2 = 0 := by rw [chk2, if_pos ho.1, chkI, if_pos ho.2]
    rw [hc] at A1
    obtain ⟨o1, o2, o3, o4, o5⟩ := okF_out ho.1
    obtain ⟨p1, p2, p3, p4, p5⟩ := okF_out ho.2
    by_cases hz : n2 = 0
    · have r1 : dvN n1 d1 n2 d2 = 0 := by rw [dvN, if_pos ho, if_pos hz]
      have r2 : dvD n1 d1 n2 d2 = 0 := by rw [dvD, if_pos ho, if_pos hz]
      have r3 : dvE n1 d1 n2 d2 = 18 := by rw [dvE, if_pos ho, if_pos hz]
      rw [r1, r2, r3]
      subst hz
      clear ho hc r1 r2 r3 o1 o2 o3 o4 o5 p1 p2 p3 p4 p5
      have dAl := dAl; have dSt := dSt; have xC := ext_cell; have xF := ext_frozen; have xS := ext_set; have xN := ext_drewN; have xD := ext_drew; have xL := ext_lt; have xE := ext_ne; have xG := ext_nr; have xX := ext_ext; have xL1 := ext_lt1; have xL2 := ext_lt2; have xL3 := ext_lt3; have xM0 := ext_le0; have xM1 := ext_le1; have xM2 := ext_le2
      go_enter Try.func82, Try.ntmps82
      go_wp2_with fail
      refine (A1 _).mono ?_
      rintro e w1c ⟨rfl, hb1c⟩
      obtain ⟨l1c, d1c, rfl⟩ := toExt hb1c
      clear hb1c
      clear A1
      go_wp2
      refine bodyPost_ret (by simp [results, Try.results82, go_sem, ext_cell, World.cell?_alloc_past, ltk2, ltk3, ltk4, ltk5, ltk6, ltk7, ltk8, ltk9, *]; try rfl) rfl ?_
      exact ⟨rfl, by (repeat (first | with_reducible exact b0 _ | (with_reducible refine bext ?_ _ _) | (with_reducible refine below_drewN ?_ _) | (with_reducible refine Below.drew ?_) | (with_reducible refine bal ?_ _)))⟩
    · have hf := flip_ok n2 d2 ho.2 hz
      have A3 := fun w => ref_Mul n1 d1 (flN n2 d2) (absI n2) a1 a2 a3 a4 (by unfold flN; split <;> omega) (by unfold flN; split <;> omega) (by have := absI_nn n2; omega) (by unfold absI; omega) w
      have r1 : dvN n1 d1 n2 d2 = muN n1 d1 (flN n2 d2) (absI n2) := by rw [dvN, if_pos ho, if_neg hz, muN, if_pos ⟨ho.1, hf⟩]
      have r2 : dvD n1 d1 n2 d2 = muD n1 d1 (flN n2 d2) (absI n2) := by rw [dvD, if_pos ho, if_neg hz, muD, if_pos ⟨ho.1, hf⟩]
      have r3 : dvE n1 d1 n2 d2 = muE n1 d1 (flN n2 d2) (absI n2) := by rw [dvE, if_pos ho, if_neg hz, muE, if_pos ⟨ho.1, hf⟩]
      rw [r1, r2, r3]
      generalize muN n1 d1 (flN n2 d2) (absI n2) = x at *
      generalize muD n1 d1 (flN n2 d2) (absI n2) = y at *
      generalize muE n1 d1 (flN n2 d2) (absI n2) = z at *
      have hz' : (n2 == 0) = false := by simpa using hz
      clear ho hc r1 r2 r3 o1 o2 o3 o4 o5 hf hz
      by_cases hn : n2 < 0
      · have e1 : flN n2 d2 = -d2 := by rw [flN, if_pos hn]
        have e2 : absI n2 = -n2 := by unfold absI; omega
        rw [e1, e2] at A3
        clear e1 e2
        have dAl := dAl; have dSt := dSt; have xC := ext_cell; have xF := ext_frozen; have xS := ext_set; have xN := ext_drewN; have xD := ext_drew; have xL := ext_lt; have xE := ext_ne; have xG := ext_nr; have xX := ext_ext; have xL1 := ext_lt1; have xL2 := ext_lt2; have xL3 := ext_lt3; have xM0 := ext_le0; have xM1 := ext_le1; have xM2 := ext_le2
        go_enter Try.func82, Try.ntmps82
        go_wp2_with fail
        refine (A1 _).mono ?_
        rintro e w2c ⟨rfl, hb2c⟩
        obtain ⟨l2c, d2c, rfl⟩ := toExt hb2c
        clear hb2c
        clear A1
        go_wp2_with fail
        refine (A3 _).mono ?_
        rintro e w3c ⟨rfl, hb3c⟩
        obtain ⟨l3c, d3c, rfl⟩ := toExt hb3c
        clear hb3c
        clear A3
        go_wp2
        refine bodyPost_ret (by simp [results, Try.results82, go_sem, ext_cell, World.cell?_alloc_past, ltk2, ltk3, ltk4, ltk5, ltk6, ltk7, ltk8, ltk9, *]; try rfl) rfl ?_
        exact ⟨rfl, by (repeat (first | with_reducible exact b0 _ | (with_reducible refine bext ?_ _ _) | (with_reducible refine below_drewN ?_ _) | (with_reducible refine Below.drew ?_) | (with_reducible refine bal ?_ _)))⟩
      · have e1 : flN n2 d2 = d2 := by rw [flN, if_neg hn]
        have e2 : absI n2 = n2 := by unfold absI; omega
        rw [e1, e2] at A3
        clear e1 e2
        have dAl := dAl; have dSt := dSt; have xC := ext_cell; have xF := ext_frozen; have xS := ext_set; have xN := ext_drewN; have xD := ext_drew; have xL := ext_lt; have xE := ext_ne; have xG := ext_nr; have xX := ext_ext; have xL1 := ext_lt1; have xL2 := ext_lt2; have xL3 := ext_lt3; have xM0 := ext_le0; have xM1 := ext_le1; have xM2 := ext_le2
        go_enter Try.func82, Try.ntmps82
        go_wp2_with fail
        refine (A1 _).mono ?_
        rintro e w4c ⟨rfl, hb4c⟩
        obtain ⟨l4c, d4c, rfl⟩ := toExt hb4c
        clear hb4c
        clear A1
        go_wp2_with fail
        refine (A3 _).mono ?_
        rintro e w5c ⟨rfl, hb5c⟩
        obtain ⟨l5c, d5c, rfl⟩ := toExt hb5c
        clear hb5c
        clear A3
        go_wp2
        refine bodyPost_ret (by simp [results, Try.results82, go_sem, ext_cell, World.cell?_alloc_past, ltk2, ltk3, ltk4, ltk5, ltk6, ltk7, ltk8, ltk9, *]; try rfl) rfl ?_
        exact ⟨rfl, by (repeat (first | with_reducible exact b0 _ | (with_reducible refine bext ?_ _ _) | (with_reducible refine below_drewN ?_ _) | (with_reducible refine Below.drew ?_) | (with_reducible refine bal ?_ _)))⟩
  · have hc : chk2 n1 d1 n2 d2 = 8 := by
      rw [chk2]
      by_cases h1 : okF n1 d1 = true
      · rw [if_pos h1, chkI, if_neg (fun h2 => ho ⟨h1, h2⟩)]
      · rw [if_neg h1]
    rw [hc] at A1
    have r1 : dvN n1 d1 n2 d2 = 0 := by rw [dvN, if_neg ho]
    have r2 : dvD n1 d1 n2 d2 = 0 := by rw [dvD, if_neg ho]
    have r3 : dvE n1 d1 n2 d2 = 8 := by rw [dvE, if_neg ho]
    rw [r1, r2, r3]
    clear ho hc r1 r2 r3
    have dAl := dAl; have dSt := dSt; have xC := ext_cell; have xF := ext_frozen; have xS := ext_set; have xN := ext_drewN; have xD := ext_drew; have xL := ext_lt; have xE := ext_ne; have xG := ext_nr; have xX := ext_ext; have xL1 := ext_lt1; have xL2 := ext_lt2; have xL3 := ext_lt3; have xM0 := ext_le0; have xM1 := ext_le1; have xM2 := ext_le2
    go_enter Try.func82, Try.ntmps82
    go_wp2_with fail
    refine (A1 _).mono ?_
    rintro e w6c ⟨rfl, hb6c⟩
    obtain ⟨l6c, d6c, rfl⟩ := toExt hb6c
    clear hb6c
    go_wp2_with fail
    refine (A1 _).mono ?_
    rintro e w7c ⟨rfl, hb7c⟩
    obtain ⟨l7c, d7c, rfl⟩ := toExt hb7c
    clear hb7c
    clear A1
    go_wp2
    refine bodyPost_ret (by simp [results, Try.results82, go_sem, ext_cell, World.cell?_alloc_past, ltk2, ltk3, ltk4, ltk5, ltk6, ltk7, ltk8, ltk9, *]; try rfl) rfl ?_
    exact ⟨rfl, by (repeat (first | with_reducible exact b0 _ | (with_reducible refine bext ?_ _ _) | (with_reducible refine below_drewN ?_ _) | (with_reducible refine Below.drew ?_) | (with_reducible refine bal ?_ _)))⟩
end Go.Proofs.Ytlijkebdaalldaa
