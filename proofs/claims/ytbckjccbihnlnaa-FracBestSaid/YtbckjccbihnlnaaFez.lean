/-
  The expansion of package frac.
-/
import Derived.Test.YtbckjccbihnlnaaFx
import Derived.Test.YtbckjccbihnlnaaFex
namespace Go.Proofs.Ytbckjccbihnlnaa
open Go.RowKit
set_option linter.unusedVariables false
set_option linter.unusedSimpArgs false

theorem own_one (w : World) (B : Nat) (x : Value) (hB : B ≤ w.heap.size) : (w.alloc (.cells #[x] 2)).ownsRow B 2 1 (.slice (some ⟨w.heap.size, 0, none⟩) 1 1) 1 [x] :=
  ⟨by simp, .inr ⟨w.heap.size, 1, #[x], rfl, hB, heap_alloc_new w _, Nat.le_refl _, by unfold maxLen; omega, by simp, by simp⟩⟩

set_option maxRecDepth 100000 in
set_option maxHeartbeats 3200000 in
theorem frac_Expand_ok (N D : Int) (ho : okF N D = true) (w : World) :
    Calls Try.prog 72 #[.agg #[.int .i64 N, .int .i64 D]] w fun e w' =>
      ∃ v B, e = .returned (.tuple #[v, .int .i64 0]) ∧ w.heap.size ≤ B ∧ w'.ownsRow B 2 1 v (exL N D).length ((exL N D).map (Value.int .i64)) ∧ Below w.heap.size w w' := by
  obtain ⟨i0, hi, hz0, hz1, hz2⟩ := info_parts infoInt
  obtain ⟨o1, o2, o3, o4, o5⟩ := okF_out ho
  have A1 := fun w => frac_Check N D (by omega) (by omega) (by omega) (by omega) w
  have A2 := fun w => frac_split N D (by omega) (by omega) o1 (by omega) w
  rw [show chkI N D = 0 by rw [chkI, if_pos ho]] at A1
  have hx : Hid (exL N D = [N / D] ++ exL D (N % D)) := Lib.hid (exL_cons N D o1)
  have u1 := Int.emod_nonneg N (show D ≠ 0 by omega)
  have u2 := Int.emod_lt_of_pos N (show 0 < D by omega)
  generalize N / D = F at *
  generalize N % D = R at *
  clear ho o5
  have dAl := dAl; have dSt := dSt; have xC := ext_cell; have xF := ext_frozen; have xS := ext_set; have xN := ext_drewN; have xD := ext_drew; have xL := ext_lt; have xE := ext_ne; have xG := ext_nr; have xX := ext_ext; have xL1 := ext_lt1; have xL2 := ext_lt2; have xL3 := ext_lt3; have xM0 := ext_le0; have xM1 := ext_le1; have xM2 := ext_le2
  go_enter Try.func72, Try.ntmps72
  go_wp2_with fail
  refine (A1 _).mono ?_
  rintro e w1c ⟨rfl, hb1c⟩
  obtain ⟨l1c, d1c, rfl⟩ := toExt hb1c
  clear hb1c
  go_wp2_with fail
  refine (A2 _).mono ?_
  rintro e w1 ⟨rfl, hb⟩
  have HB1 : Below w.heap.size w w1 := bt (by (repeat (first | with_reducible exact b0 _ | (with_reducible refine bext ?_ _ _) | (with_reducible refine below_drewN ?_ _) | (with_reducible refine Below.drew ?_) | (with_reducible refine bal ?_ _)))) hb
  obtain ⟨lz, dz, hw⟩ := toExt hb
  clear hb A1 A2
  have ka : w1.cell? ⟨w.heap.size, 0, none⟩ = some (.int .i64 N) := by rw [hw]; (simp (maxDischargeDepth := 8) [go_sem, World.cell?_alloc_past, ltk2, ltk3, ltk4, ltk5, ltk6, ltk7, ltk8, ltk9, *])
  have kb : w1.cell? ⟨w.heap.size, 1, none⟩ = some (.int .i64 D) := by rw [hw]; (simp (maxDischargeDepth := 8) [go_sem, World.cell?_alloc_past, ltk2, ltk3, ltk4, ltk5, ltk6, ltk7, ltk8, ltk9, *])
  have sz : w.heap.size < w1.heap.size := by rw [hw]; simp [ext_size] <;> omega
  clear hw
  go_wp2_with fail
  have HB0 : Below w1.heap.size w1 (w1.alloc (.cells #[.int .i64 F] 2)) := bal (b0 _) _
  have hO := own_one w1 w1.heap.size (.int .i64 F) (Nat.le_refl _)
  go_loopg [6, 7, 8] D.toNat (fun k y v x wr => ∃ (l : List Int) (a b : Int), k = a.toNat ∧ x = .int .i64 a ∧ y = .int .i64 b ∧ exL N D = l ++ exL a b ∧ 0 ≤ b ∧ b < a ∧ a ≤ 1000000000000000000 ∧
    wr.ownsRow w1.heap.size 2 1 v l.length (l.map (Value.int .i64)) ∧ w1.heap.size ≤ wr.heap.size ∧ Below w1.heap.size w1 wr)
  case atStart => exact ⟨[F], D, R, rfl, rfl, rfl, hx.out, u1, u2, o2, hO, by simp, HB0⟩
  case round =>
    obtain ⟨l, a, b, rfl, rfl, rfl, hl, h0, h1, h2, hown, hsz, hbr⟩ := hrel
    have hlen : l.length + (exL a b).length ≤ 120 := by
      have := exL_120 N D (by omega) o2
      rw [hl, List.length_append] at this
      exact this
    clear hO
    by_cases hb : b = 0
    · subst hb
      have HL := Lib.hid hl
      clear hl
      go_wp2
      go_ret2
      refine ⟨u7, w1.heap.size, rfl, by omega, ?_, HB1.trans (hbr.mono (by omega))⟩
      rw [HL.out, exL_nil, List.append_nil]
      exact hown
    · have hb1 : 1 ≤ b := by omega
      rw [exL_cons a b hb1] at hl hlen
      simp only [List.length_cons] at hlen
      have t1 : a.tdiv b = a / b := Int.tdiv_eq_ediv_of_nonneg (by omega)
      have t2 : a.tmod b = a % b := Int.tmod_eq_emod_of_nonneg (by omega)
      have r0 := Int.emod_nonneg a hb
      have r1 := Int.emod_lt_of_pos a (show 0 < b by omega)
      have q0 := div_bd a b 1000000000000000000 (by omega) (by omega) h2
      have hl' : Hid (exL N D = (l ++ [a / b]) ++ exL b (a % b)) := Lib.hid (by rw [hl]; simp)
      have hR : Hid (0 ≤ a % b ∧ a % b < b) := Lib.hid ⟨r0, r1⟩
      have b1 : (b == 0) = false := by simpa using hb
      clear hl
      generalize a % b = r at *
      generalize a / b = q at *
      go_wp2_with (at_builtin; refine wpList_append_own _ rfl _ _ 99 rfl w1.heap.size 2 i0 (.int .i64 0) 1 8 Try.underlying99 hi hz0 hz1 hz2 rfl (by decide) _ _ _ rfl (hown.alloc _) ⟨wr.heap.size, 0, none⟩ 1 1 [.int .i64 q] rfl rfl ?c1 ?c2 ?c3 ?c4 ?c5 ?_)
      case c1 =>
        intro j u hj
        match j, hj with
        | 0, hj => simp at hj; subst hj; simp [Addr.add]
      case c2 => intro u hu; simp at hu; subst hu; rfl
      case c3 => unfold maxLen; omega
      case c4 => omega
      case c5 => simp; omega
      intro v' w2 hown' hgrow _
      have RR := app_step hown hbr hsz hown' hgrow
      clear hown' hgrow hown hbr
      go_wp2_with fail
      go_quiet (fail)
      go_wp2
      go_roundg b.toNat
      case measure => have := hR.out; omega
      case rel => exact ⟨l ++ [q], b, r, rfl, rfl, rfl, hl'.out, hR.out.1, hR.out.2, by omega, RR.1, RR.2.2, below_drewN RR.2.1 _⟩
end Go.Proofs.Ytbckjccbihnlnaa
