/-
  Package vec: lists of coordinates, and their check.
-/
import Derived.Test.YtmjbeplcabomdaaKu
import Derived.Test.YtmjbeplcabomdaaFa
import Derived.Test.YtmjbeplcabomdaaFd
import Derived.Test.YtmjbeplcabomdaaFn
import Derived.Test.YtmjbeplcabomdaaVn
import Derived.Deep.DeepCutAuto
import Derived.IntWalk
import Derived.Shelf.Spec.BitsCarry
import Derived.Deep.LoopGhost
namespace Go.Proofs.Ytmjbeplcabomdaa
open Go.RowKit
set_option linter.unusedVariables false
set_option linter.unusedSimpArgs false

theorem idx0 (a b c d e f : Int) (w : World) : (Instr.index 89 (.agg #[.int .i64 a, .int .i64 b, .int .i64 c, .int .i64 d, .int .i64 e, .int .i64 f]) (.int .i64 0)).run Try.prog w = .ok (.agg #[.int .i64 a, .int .i64 b]) w := by simp [Instr.index, run_underlying Try.underlying89, asIntOf, go_sem]
theorem idx1 (a b c d e f : Int) (w : World) : (Instr.index 89 (.agg #[.int .i64 a, .int .i64 b, .int .i64 c, .int .i64 d, .int .i64 e, .int .i64 f]) (.int .i64 1)).run Try.prog w = .ok (.agg #[.int .i64 c, .int .i64 d]) w := by simp [Instr.index, run_underlying Try.underlying89, asIntOf, go_sem]
theorem idx2 (a b c d e f : Int) (w : World) : (Instr.index 89 (.agg #[.int .i64 a, .int .i64 b, .int .i64 c, .int .i64 d, .int .i64 e, .int .i64 f]) (.int .i64 2)).run Try.prog w = .ok (.agg #[.int .i64 e, .int .i64 f]) w := by simp [Instr.index, run_underlying Try.underlying89, asIntOf, go_sem]
def rowOk (C : Nat → Int) (i : Nat) : Prop := okF (C (i * 6)) (C (i * 6 + 1)) = true ∧ okF (C (i * 6 + 2)) (C (i * 6 + 3)) = true ∧ okF (C (i * 6 + 4)) (C (i * 6 + 5)) = true
instance (C : Nat → Int) (i : Nat) : Decidable (rowOk C i) := by unfold rowOk; infer_instance
def rowsE (C : Nat → Int) (m : Nat) : Int := if ∀ i, i < m → rowOk C i then 0 else 8

set_option maxHeartbeats 400000 in
theorem vec_list (a b c d e f : Int) (w : World) :
    Calls Try.prog 49 #[.agg #[.int .i64 a, .int .i64 b, .int .i64 c, .int .i64 d, .int .i64 e, .int .i64 f]] w fun x w' => x = .returned (.agg #[.int .i64 a, .int .i64 b, .int .i64 c, .int .i64 d, .int .i64 e, .int .i64 f]) ∧ Below w.heap.size w w' := by
  have xR := xRul
  go_enter Try.func49, Try.ntmps49
  go_wp2
  refine bodyPost_ret (by simp [results, Try.results49, go_sem, ext_cell, kp, *]; try rfl) rfl ?_
  exact ⟨rfl, kb⟩

set_option maxRecDepth 100000 in
set_option maxHeartbeats 1600000 in
theorem vec_check (C : Nat → Int) (g cap m : Nat) (hm : m ≤ 6) (hb : ∀ i, i < m → okC (C (i * 6)) (C (i * 6 + 1)) ∧ okC (C (i * 6 + 2)) (C (i * 6 + 3)) ∧ okC (C (i * 6 + 4)) (C (i * 6 + 5))) (w : World)
    (hg : g < w.heap.size) (hc : ∀ o, o < 6 * m → w.cell? ⟨g, o, none⟩ = some (.int .i64 (C o))) :
    Calls Try.prog 48 #[.slice (some ⟨g, 0, none⟩) m cap] w fun x w' => x = .returned (.int .i64 (rowsE C m)) ∧ Below w.heap.size w w' := by
  have HB := Lib.hid hb
  have HC := Lib.hid hc
  clear hb hc
  have xR := xRul
  go_enter Try.func48, Try.ntmps48
  go_wp2_with fail
  go_loopg [10] m (fun kk s10 wr => ∃ i : Nat, kk = m - i ∧ s10 = .int .i64 i ∧ i ≤ m ∧ (∀ j, j < i → rowOk C j) ∧ Below w.heap.size w wr)
  case atStart => exact ⟨0, rfl, rfl, by omega, fun j hj => by omega, kb⟩
  case round =>
    obtain ⟨i, rfl, rfl, him, hok, hbr⟩ := hrel
    have OK := Lib.hid hok
    clear hok
    by_cases hi : i < m
    · have b1 := HB.out i hi
      have e0 := (hbr.cell hg).trans (HC.out (i * 6) (by omega))
      have e1 := (hbr.cell hg).trans (HC.out (i * 6 + 1) (by omega))
      have e2 := (hbr.cell hg).trans (HC.out (i * 6 + 2) (by omega))
      have e3 := (hbr.cell hg).trans (HC.out (i * 6 + 3) (by omega))
      have e4 := (hbr.cell hg).trans (HC.out (i * 6 + 4) (by omega))
      have e5 := (hbr.cell hg).trans (HC.out (i * 6 + 5) (by omega))
      have zi : (i : Int) < (m : Int) := by omega
      have zg : g < wr.heap.size := by have := hbr.size; omega
      have A0 := fun w => frac_Check (C (i * 6)) (C (i * 6 + 1)) b1.1.1 b1.1.2.1 b1.1.2.2.1 b1.1.2.2.2 w
      have A1 := fun w => frac_Check (C (i * 6 + 2)) (C (i * 6 + 3)) b1.2.1.1 b1.2.1.2.1 b1.2.1.2.2.1 b1.2.1.2.2.2 w
      have A2 := fun w => frac_Check (C (i * 6 + 4)) (C (i * 6 + 5)) b1.2.2.1 b1.2.2.2.1 b1.2.2.2.2.1 b1.2.2.2.2.2 w
      have R8 : Hid (¬ rowOk C i → rowsE C m = 8) := Lib.hid (fun h => by unfold rowsE; rw [if_neg (fun k => h (k i hi))])
      have R0 : Hid (okF (C (i * 6)) (C (i * 6 + 1)) = true → okF (C (i * 6 + 2)) (C (i * 6 + 3)) = true → okF (C (i * 6 + 4)) (C (i * 6 + 5)) = true → ∀ j, j < i + 1 → rowOk C j) := Lib.hid (fun h1 h2 h3 j hj => by
        rcases Nat.lt_or_ge j i with q | q
        · exact OK.out j q
        · rw [show j = i by omega]; exact ⟨h1, h2, h3⟩)
      have S8 : Hid (rowOk C i → okF (C (i * 6)) (C (i * 6 + 1)) = true ∧ okF (C (i * 6 + 2)) (C (i * 6 + 3)) = true ∧ okF (C (i * 6 + 4)) (C (i * 6 + 5)) = true) := Lib.hid (fun h => h)
      clear b1
      generalize C (i * 6) = c0 at *
      generalize C (i * 6 + 1) = c1 at *
      generalize C (i * 6 + 2) = c2 at *
      generalize C (i * 6 + 3) = c3 at *
      generalize C (i * 6 + 4) = c4 at *
      generalize C (i * 6 + 5) = c5 at *
      unfold chkI at A0 A1 A2
      have j0 := idx0 c0 c1 c2 c3 c4 c5
      have j1 := idx1 c0 c1 c2 c3 c4 c5
      have j2 := idx2 c0 c1 c2 c3 c4 c5
      by_cases h0 : okF c0 c1 = true
      · rw [if_pos h0] at A0
        by_cases h1 : okF c2 c3 = true
        · rw [if_pos h1] at A1
          by_cases h2 : okF c4 c5 = true
          · rw [if_pos h2] at A2
            have RR := Lib.hid (R0.out h0 h1 h2)
            clear R0 R8 S8 h0 h1 h2 hi
            go_wp2_with fail
            refine wp_loop_rounds 4 ?_
            rw [rounds_succ]
            go_wp2_with fail
            with_reducible refine (A0 _).mono ?_
            rintro e v0 ⟨rfl, hb0⟩
            obtain ⟨l0, d0, rfl⟩ := toExt hb0
            clear hb0
            go_wp2_with fail
            rw [rounds_succ]
            go_wp2_with fail
            with_reducible refine (A1 _).mono ?_
            rintro e v1 ⟨rfl, hb1⟩
            obtain ⟨l1, d1, rfl⟩ := toExt hb1
            clear hb1
            go_wp2_with fail
            rw [rounds_succ]
            go_wp2_with fail
            with_reducible refine (A2 _).mono ?_
            rintro e v2 ⟨rfl, hb2⟩
            obtain ⟨l2, d2, rfl⟩ := toExt hb2
            clear hb2
            go_wp2_with fail
            rw [rounds_succ]
            go_wp2
            go_roundg (m - (i + 1))
            case measure => omega
            case rel => exact ⟨i + 1, by omega, by go_num, by omega, RR.out, kb⟩
          · rw [if_neg h2] at A2
            have E8 := Lib.hid (R8.out (fun k => h2 (S8.out k).2.2))
            clear R0 R8 S8 h0 h1 h2 hi
            go_wp2_with fail
            refine wp_loop_rounds 4 ?_
            rw [rounds_succ]
            go_wp2_with fail
            with_reducible refine (A0 _).mono ?_
            rintro e v0 ⟨rfl, hb0⟩
            obtain ⟨l0, d0, rfl⟩ := toExt hb0
            clear hb0
            go_wp2_with fail
            rw [rounds_succ]
            go_wp2_with fail
            with_reducible refine (A1 _).mono ?_
            rintro e v1 ⟨rfl, hb1⟩
            obtain ⟨l1, d1, rfl⟩ := toExt hb1
            clear hb1
            go_wp2_with fail
            rw [rounds_succ]
            go_wp2_with fail
            with_reducible refine (A2 _).mono ?_
            rintro e v2 ⟨rfl, hb2⟩
            obtain ⟨l2, d2, rfl⟩ := toExt hb2
            clear hb2
            go_wp2
            go_ret
            exact ⟨by rw [E8.out]; rfl, kb⟩
        · rw [if_neg h1] at A1
          have E8 := Lib.hid (R8.out (fun k => h1 (S8.out k).2.1))
          clear R0 R8 S8 h0 h1 hi A2
          go_wp2_with fail
          refine wp_loop_rounds 4 ?_
          rw [rounds_succ]
          go_wp2_with fail
          with_reducible refine (A0 _).mono ?_
          rintro e v0 ⟨rfl, hb0⟩
          obtain ⟨l0, d0, rfl⟩ := toExt hb0
          clear hb0
          go_wp2_with fail
          rw [rounds_succ]
          go_wp2_with fail
          with_reducible refine (A1 _).mono ?_
          rintro e v1 ⟨rfl, hb1⟩
          obtain ⟨l1, d1, rfl⟩ := toExt hb1
          clear hb1
          go_wp2
          go_ret
          exact ⟨by rw [E8.out]; rfl, kb⟩
      · rw [if_neg h0] at A0
        have E8 := Lib.hid (R8.out (fun k => h0 (S8.out k).1))
        clear R0 R8 S8 h0 hi A1 A2
        go_wp2_with fail
        refine wp_loop_rounds 4 ?_
        rw [rounds_succ]
        go_wp2_with fail
        with_reducible refine (A0 _).mono ?_
        rintro e v0 ⟨rfl, hb0⟩
        obtain ⟨l0, d0, rfl⟩ := toExt hb0
        clear hb0
        go_wp2
        go_ret
        exact ⟨by rw [E8.out]; rfl, kb⟩
    · have E0 : Hid (rowsE C m = 0) := Lib.hid (by unfold rowsE; rw [if_pos]; intro j hj; exact OK.out j (by omega))
      have zi : ¬ (i : Int) < (m : Int) := by omega
      go_wp2
      go_ret
      exact ⟨by rw [E0.out]; rfl, kb⟩
end Go.Proofs.Ytmjbeplcabomdaa
