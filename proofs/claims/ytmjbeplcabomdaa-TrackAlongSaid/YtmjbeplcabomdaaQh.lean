/-
  Package vec: lists of coordinates, and their check.  Package vec: rows of numbers, vector.  P2.1: Check of package vec.
-/
import Derived.Test.YtmjbeplcabomdaaFx
import Derived.Test.YtmjbeplcabomdaaVn
import Derived.Deep.LoopGhost
namespace Go.Proofs.Ytmjbeplcabomdaa
open Go.RowKit
set_option linter.unusedVariables false
set_option linter.unusedSimpArgs false

theorem idx0 (a b c d e f : Int) (w : World) : (Instr.index 89 (.agg #[.int .i64 a, .int .i64 b, .int .i64 c, .int .i64 d, .int .i64 e, .int .i64 f]) (.int .i64 0)).run Try.prog w = .ok (.agg #[.int .i64 a, .int .i64 b]) w := by simp [Instr.index, run_underlying Try.underlying89, asIntOf, go_sem]
theorem idx1 (a b c d e f : Int) (w : World) : (Instr.index 89 (.agg #[.int .i64 a, .int .i64 b, .int .i64 c, .int .i64 d, .int .i64 e, .int .i64 f]) (.int .i64 1)).run Try.prog w = .ok (.agg #[.int .i64 c, .int .i64 d]) w := by simp [Instr.index, run_underlying Try.underlying89, asIntOf, go_sem]
theorem idx2 (a b c d e f : Int) (w : World) : (Instr.index 89 (.agg #[.int .i64 a, .int .i64 b, .int .i64 c, .int .i64 d, .int .i64 e, .int .i64 f]) (.int .i64 2)).run Try.prog w = .ok (.agg #[.int .i64 e, .int .i64 f]) w := by simp [Instr.index, run_underlying Try.underlying89, asIntOf, go_sem]
def rowOk (C : Nat → Int) (i : Nat) : Prop := okF (C (i * 6)) (C (i * 6 + 1)) = true ∧ okF (C (i * 6 + 2)) (C (i * 6 + 3)) = true ∧ okF (C (i * 6 + 4)) (C (i * 6 + 5)) = true
instance (C : Nat → Int) (i : Nat) : Decidable (rowOk C i) := by unfold rowOk; infer_instance
def rowsE (C : Nat → Int) (m : Nat) : Int := if ∀ i, i < m → rowOk C i then 0 else 8

set_option maxHeartbeats 400000 in
theorem vec_list (a b c d e f : Int) (w : World) :
    Calls Try.prog 49 #[.agg #[.int .i64 a, .int .i64 b, .int .i64 c, .int .i64 d, .int .i64 e, .int .i64 f]] w fun x w' => x = .returned (.agg #[.int .i64 a, .int .i64 b, .int .i64 c, .int .i64 d, .int .i64 e, .int .i64 f]) ∧ Below w.heap.size w w' := by
  have dAl := dAl; have dSt := dSt; have xC := ext_cell; have xF := ext_frozen; have xS := ext_set; have xN := ext_drewN; have xD := ext_drew; have xL := ext_lt; have xE := ext_ne; have xG := ext_nr; have xX := ext_ext; have xL1 := ext_lt1; have xL2 := ext_lt2; have xL3 := ext_lt3; have xM0 := ext_le0; have xM1 := ext_le1; have xM2 := ext_le2
  go_enter Try.func49, Try.ntmps49
  go_wp2
  refine bodyPost_ret (by simp [results, Try.results49, go_sem, ext_cell, World.cell?_alloc_past, ltk2, ltk3, ltk4, ltk5, ltk6, ltk7, ltk8, ltk9, *]; try rfl) rfl ?_
  exact ⟨rfl, by (repeat (first | with_reducible exact b0 _ | (with_reducible refine bext ?_ _ _) | (with_reducible refine below_drewN ?_ _) | (with_reducible refine Below.drew ?_) | (with_reducible refine bal ?_ _) | (with_reducible refine bset ?_ (by first | omega | (simp <;> omega)) _)))⟩

set_option maxRecDepth 100000 in
set_option maxHeartbeats 1600000 in
theorem vec_check (C : Nat → Int) (g cap m : Nat) (hm : m ≤ 6) (hb : ∀ i, i < m → okC (C (i * 6)) (C (i * 6 + 1)) ∧ okC (C (i * 6 + 2)) (C (i * 6 + 3)) ∧ okC (C (i * 6 + 4)) (C (i * 6 + 5))) (w : World)
    (hg : g < w.heap.size) (hc : ∀ o, o < 6 * m → w.cell? ⟨g, o, none⟩ = some (.int .i64 (C o))) :
    Calls Try.prog 48 #[.slice (some ⟨g, 0, none⟩) m cap] w fun x w' => x = .returned (.int .i64 (rowsE C m)) ∧ Below w.heap.size w w' := by
  have HB := Lib.hid hb
  have HC := Lib.hid hc
  clear hb hc
  have dAl := dAl; have dSt := dSt; have xC := ext_cell; have xF := ext_frozen; have xS := ext_set; have xN := ext_drewN; have xD := ext_drew; have xL := ext_lt; have xE := ext_ne; have xG := ext_nr; have xX := ext_ext; have xL1 := ext_lt1; have xL2 := ext_lt2; have xL3 := ext_lt3; have xM0 := ext_le0; have xM1 := ext_le1; have xM2 := ext_le2
  go_enter Try.func48, Try.ntmps48
  go_wp2_with fail
  go_loopg [10] m (fun kk s10 wr => ∃ i : Nat, kk = m - i ∧ s10 = .int .i64 i ∧ i ≤ m ∧ (∀ j, j < i → rowOk C j) ∧ Below w.heap.size w wr)
  case atStart => exact ⟨0, rfl, rfl, by omega, fun j hj => by omega, by (repeat (first | with_reducible exact b0 _ | (with_reducible refine bext ?_ _ _) | (with_reducible refine below_drewN ?_ _) | (with_reducible refine Below.drew ?_) | (with_reducible refine bal ?_ _)))⟩
  case round =>
    obtain ⟨i, rfl, rfl, him, hok, hbr⟩ := hrel
    have OK := Lib.hid hok
    clear hok
    by_cases hi : i < m
    · have b1 := HB.out i hi
      have e0 := (hbr.cell hg).trans (HC.out (i * 6) (by omega))
      have e1 := (hbr.cell hg).trans (HC.out (i * 6 + 1) (by omega))
      have e2 := (hbr.cell hg).trans (HC.out (i * 6 + 2) (by omega))
      have e3 := (hbr.cell hg).trans (HC.out (i * 6 + 3) (by omega))
      have e4 := (hbr.cell hg).trans (HC.out (i * 6 + 4) (by omega))
      have e5 := (hbr.cell hg).trans (HC.out (i * 6 + 5) (by omega))
      have zi : (i : Int) < (m : Int) := by omega
      have zg : g < wr.heap.size := by have := hbr.size; omega
      have A0 := fun w => frac_Check (C (i * 6)) (C (i * 6 + 1)) b1.1.1 b1.1.2.1 b1.1.2.2.1 b1.1.2.2.2 w
      have A1 := fun w => frac_Check (C (i * 6 + 2)) (C (i * 6 + 3)) b1.2.1.1 b1.2.1.2.1 b1.2.1.2.2.1 b1.2.1.2.2.2 w
      have A2 := fun w => frac_Check (C (i * 6 + 4)) (C (i * 6 + 5)) b1.2.2.1 b1.2.2.2.1 b1.2.2.2.2.1 b1.2.2.2.2.2 w
      have R8 : Hid (¬ rowOk C i → rowsE C m = 8) := Lib.hid (fun h => by unfold rowsE; rw [if_neg (fun k => h (k i hi))])
      have R0 : Hid (okF (C (i * 6)) (C (i * 6 + 1)) = true → okF (C (i * 6 + 2)) (C (i * 6 + 3)) = true → okF (C (i * 6 + 4)) (C (i * 6 + 5)) = true → ∀ j, j < i + 1 → rowOk C j) := Lib.hid (fun h1 h2 h3 j hj => by
        rcases Nat.lt_or_ge j i with q | q
        · exact OK.out j q
        · rw [show j = i by omega]; exact ⟨h1, h2, h3⟩)
      have S8 : Hid (rowOk C i → okF (C (i * 6)) (C (i * 6 + 1)) = true ∧ okF (C (i * 6 + 2)) (C (i * 6 + 3)) = true ∧ okF (C (i * 6 + 4)) (C (i * 6 + 5)) = true) := Lib.hid (fun h => h)
      clear b1
      generalize C (i * 6) = c0 at *
      generalize C (i * 6 + 1) = c1 at *
      generalize C (i * 6 + 2) = c2 at *
      generalize C (i * 6 + 3) = c3 at *
      generalize C (i * 6 + 4) = c4 at *
      generalize C (i * 6 + 5) = c5 at *
      unfold chkI at A0 A1 A2
      have j0 := idx0 c0 c1 c2 c3 c4 c5
      have j1 := idx1 c0 c1 c2 c3 c4 c5
      have j2 := idx2 c0 c1 c2 c3 c4 c5
      by_cases h0 : okF c0 c1 = true
      · rw [if_pos h0] at A0
        by_cases h1 : okF c2 c3 = true
        · rw [if_pos h1] at A1
          by_cases h2 : okF c4 c5 = true
          · rw [if_pos h2] at A2
            have RR := Lib.hid (R0.out h0 h1 h2)
            clear R0 R8 S8 h0 h1 h2 hi
            go_wp2_with fail
            refine wp_loop_rounds 4 ?_
            rw [rounds_succ]
            go_wp2_with fail
            with_reducible refine (A0 _).mono ?_
            rintro e v0 ⟨rfl, hb0⟩
            obtain ⟨l0, d0, rfl⟩ := toExt hb0
            clear hb0
            go_wp2_with fail
            rw [rounds_succ]
            go_wp2_with fail
            with_reducible refine (A1 _).mono ?_
            rintro e v1 ⟨rfl, hb1⟩
            obtain ⟨l1, d1, rfl⟩ := toExt hb1
            clear hb1
            go_wp2_with fail
            rw [rounds_succ]
            go_wp2_with fail
            with_reducible refine (A2 _).mono ?_
            rintro e v2 ⟨rfl, hb2⟩
            obtain ⟨l2, d2, rfl⟩ := toExt hb2
            clear hb2
            go_wp2_with fail
            rw [rounds_succ]
            go_wp2
            go_roundg (m - (i + 1))
            case measure => omega
            case rel => exact ⟨i + 1, by omega, by go_num, by omega, RR.out, by (repeat (first | with_reducible exact hbr | (with_reducible refine bext ?_ _ _) | (with_reducible refine below_drewN ?_ _) | (with_reducible refine Below.drew ?_) | (with_reducible refine bal ?_ _) | (with_reducible refine bset ?_ (by first | omega | (simp <;> omega)) _)))⟩
          · rw [if_neg h2] at A2
            have E8 := Lib.hid (R8.out (fun k => h2 (S8.out k).2.2))
            clear R0 R8 S8 h0 h1 h2 hi
            go_wp2_with fail
            refine wp_loop_rounds 4 ?_
            rw [rounds_succ]
            go_wp2_with fail
            with_reducible refine (A0 _).mono ?_
            rintro e v0 ⟨rfl, hb0⟩
            obtain ⟨l0, d0, rfl⟩ := toExt hb0
            clear hb0
            go_wp2_with fail
            rw [rounds_succ]
            go_wp2_with fail
            with_reducible refine (A1 _).mono ?_
            rintro e v1 ⟨rfl, hb1⟩
            obtain ⟨l1, d1, rfl⟩ := toExt hb1
            clear hb1
            go_wp2_with fail
            rw [rounds_succ]
            go_wp2_with fail
            with_reducible refine (A2 _).mono ?_
            rintro e v2 ⟨rfl, hb2⟩
            obtain ⟨l2, d2, rfl⟩ := toExt hb2
            clear hb2
            go_wp2
            go_ret
            exact ⟨by rw [E8.out]; rfl, by (repeat (first | with_reducible exact hbr | (with_reducible refine bext ?_ _ _) | (with_reducible refine below_drewN ?_ _) | (with_reducible refine Below.drew ?_) | (with_reducible refine bal ?_ _) | (with_reducible refine bset ?_ (by first | omega | (simp <;> omega)) _)))⟩
        · rw [if_neg h1] at A1
          have E8 := Lib.hid (R8.out (fun k => h1 (S8.out k).2.1))
          clear R0 R8 S8 h0 h1 hi A2
          go_wp2_with fail
          refine wp_loop_rounds 4 ?_
          rw [rounds_succ]
          go_wp2_with fail
          with_reducible refine (A0 _).mono ?_
          rintro e v0 ⟨rfl, hb0⟩
          obtain ⟨l0, d0, rfl⟩ := toExt hb0
          clear hb0
          go_wp2_with fail
          rw [rounds_succ]
          go_wp2_with fail
          with_reducible refine (A1 _).mono ?_
          rintro e v1 ⟨rfl, hb1⟩
          obtain ⟨l1, d1, rfl⟩ := toExt hb1
          clear hb1
          go_wp2
          go_ret
          exact ⟨by rw [E8.out]; rfl, by (repeat (first | with_reducible exact hbr | (with_reducible refine bext ?_ _ _) | (with_reducible refine below_drewN ?_ _) | (with_reducible refine Below.drew ?_) | (with_reducible refine bal ?_ _) | (with_reducible refine bset ?_ (by first | omega | (simp <;> omega)) _)))⟩
      · rw [if_neg h0] at A0
        have E8 := Lib.hid (R8.out (fun k => h0 (S8.out k).1))
        clear R0 R8 S8 h0 hi A1 A2
        go_wp2_with fail
        refine wp_loop_rounds 4 ?_
        rw [rounds_succ]
        go_wp2_with fail
        with_reducible refine (A0 _).mono ?_
        rintro e v0 ⟨rfl, hb0⟩
        obtain ⟨l0, d0, rfl⟩ := toExt hb0
        clear hb0
        go_wp2
        go_ret
        exact ⟨by rw [E8.out]; rfl, by (repeat (first | with_reducible exact hbr | (with_reducible refine bext ?_ _ _) | (with_reducible refine below_drewN ?_ _) | (with_reducible refine Below.drew ?_) | (with_reducible refine bal ?_ _) | (with_reducible refine bset ?_ (by first | omega | (simp <;> omega)) _)))⟩
    · have E0 : Hid (rowsE C m = 0) := Lib.hid (by unfold rowsE; rw [if_pos]; intro j hj; exact OK.out j (by omega))
      have zi : ¬ (i : Int) < (m : Int) := by omega
      go_wp2
      go_ret
      exact ⟨by rw [E0.out]; rfl, by (repeat (first | with_reducible exact hbr | (with_reducible refine bext ?_ _ _) | (with_reducible refine below_drewN ?_ _) | (with_reducible refine Below.drew ?_) | (with_reducible refine bal ?_ _) | (with_reducible refine bset ?_ (by first | omega | (simp <;> omega)) _)))⟩
end Go.Proofs.Ytmjbeplcabomdaa
namespace Go.Proofs.Ytmjbeplcabomdaa
open Go.RowKit
set_option linter.unusedVariables false
set_option linter.unusedSimpArgs false

theorem all6 {P : Nat → Prop} (p0 : P 0) (p1 : P 1) (p2 : P 2) (p3 : P 3) (p4 : P 4) (p5 : P 5) : ∀ o, o < 6 → P o := by
  intro o ho
  rcases (show o = 0 ∨ o = 1 ∨ o = 2 ∨ o = 3 ∨ o = 4 ∨ o = 5 by omega) with rfl | rfl | rfl | rfl | rfl | rfl <;> assumption
theorem all12 {P : Nat → Prop} (p0 : P 0) (p1 : P 1) (p2 : P 2) (p3 : P 3) (p4 : P 4) (p5 : P 5) (p6 : P 6) (p7 : P 7) (p8 : P 8) (p9 : P 9) (pa : P 10) (pb : P 11) : ∀ o, o < 12 → P o := by
  intro o ho
  rcases Nat.lt_or_ge o 6 with q | q
  · exact all6 p0 p1 p2 p3 p4 p5 o q
  · rcases (show o = 6 ∨ o = 7 ∨ o = 8 ∨ o = 9 ∨ o = 10 ∨ o = 11 by omega) with rfl | rfl | rfl | rfl | rfl | rfl <;> assumption
def li (l : List Int) (o : Nat) : Int := l.getD o 0
theorem rows1 (a b c d e f : Int) : rowsE (li [a, b, c, d, e, f]) 1 = chV a b c d e f := by
  unfold rowsE chV
  by_cases h : okV a b c d e f = true
  · rw [if_pos h, if_pos]
    intro i hi
    obtain rfl : i = 0 := by omega
    exact okV_in h
  · rw [if_neg h, if_neg]
    intro k
    obtain ⟨k1, k2, k3⟩ := k 0 (by omega)
    apply h; unfold okV
    have e1 : okF a b = true := k1
    have e2 : okF c d = true := k2
    have e3 : okF e f = true := k3
    rw [e1, e2, e3]; rfl
theorem rows2 (a b c d e f g h i j k l : Int) : rowsE (li [a, b, c, d, e, f, g, h, i, j, k, l]) 2 = if okV a b c d e f = true ∧ okV g h i j k l = true then 0 else 8 := by
  unfold rowsE
  by_cases q : okV a b c d e f = true ∧ okV g h i j k l = true
  · rw [if_pos q, if_pos]
    intro i hi
    rcases (show i = 0 ∨ i = 1 by omega) with rfl | rfl
    · exact okV_in q.1
    · exact okV_in q.2
  · rw [if_neg q, if_neg]
    intro r
    obtain ⟨k1, k2, k3⟩ := r 0 (by omega)
    obtain ⟨m1, m2, m3⟩ := r 1 (by omega)
    have e1 : okF a b = true := k1
    have e2 : okF c d = true := k2
    have e3 : okF e f = true := k3
    have f1 : okF g h = true := m1
    have f2 : okF i j = true := m2
    have f3 : okF k l = true := m3
    apply q; unfold okV; rw [e1, e2, e3, f1, f2, f3]; exact ⟨rfl, rfl⟩

set_option maxHeartbeats 400000 in
theorem vec_vector (a b c d e f E : Int) (w : World) :
    Calls Try.prog 61 #[.agg #[.int .i64 a, .int .i64 b, .int .i64 c, .int .i64 d, .int .i64 e, .int .i64 f], .int .i64 E] w fun x w' => x = .returned (.tuple #[.agg #[.int .i64 a, .int .i64 b, .int .i64 c, .int .i64 d, .int .i64 e, .int .i64 f], .int .i64 E]) ∧ Below w.heap.size w w' := by
  have dAl := dAl; have dSt := dSt; have xC := ext_cell; have xF := ext_frozen; have xS := ext_set; have xN := ext_drewN; have xD := ext_drew; have xL := ext_lt; have xE := ext_ne; have xG := ext_nr; have xX := ext_ext; have xL1 := ext_lt1; have xL2 := ext_lt2; have xL3 := ext_lt3; have xM0 := ext_le0; have xM1 := ext_le1; have xM2 := ext_le2
  go_enter Try.func61, Try.ntmps61
  go_wp2
  refine bodyPost_ret (by simp [results, Try.results61, go_sem, ext_cell, World.cell?_alloc_past, ltk2, ltk3, ltk4, ltk5, ltk6, ltk7, ltk8, ltk9, *]; try rfl) rfl ?_
  exact ⟨rfl, by (repeat (first | with_reducible exact b0 _ | (with_reducible refine bext ?_ _ _) | (with_reducible refine below_drewN ?_ _) | (with_reducible refine Below.drew ?_) | (with_reducible refine bal ?_ _) | (with_reducible refine bset ?_ (by first | omega | (simp <;> omega)) _)))⟩

end Go.Proofs.Ytmjbeplcabomdaa
namespace Go.Proofs.Ytmjbeplcabomdaa
open Go.RowKit
set_option linter.unusedVariables false
set_option linter.unusedSimpArgs false

set_option maxRecDepth 100000 in
set_option maxHeartbeats 6400000 in
theorem vec_Check (a b c d e f : Int) (p1 : okC a b) (p2 : okC c d) (p3 : okC e f) (w : World) :
    Calls Try.prog 32 #[.agg #[.int .i64 a, .int .i64 b, .int .i64 c, .int .i64 d, .int .i64 e, .int .i64 f]] w fun x w' => x = .returned (.int .i64 (chV a b c d e f)) ∧ Below w.heap.size w w' := by
  have CK : ∀ (W : World) (gg : Nat), gg < W.heap.size → (∀ o, o < 6 → W.cell? ⟨gg, o, none⟩ = some (.int .i64 (li [a, b, c, d, e, f] o))) →
      Calls Try.prog 48 #[.slice (some ⟨gg, 0, none⟩) 1 1] W fun x w' => x = .returned (.int .i64 (chV a b c d e f)) ∧ Below W.heap.size W w' := by
    intro W gg h1 h2
    have := vec_check (li [a, b, c, d, e, f]) gg 1 1 (by omega) (by
      intro n hn
      obtain rfl : n = 0 := by omega
      exact ⟨p1, p2, p3⟩) W h1 h2
    rw [rows1] at this
    exact this
  have L1 := fun w => vec_list a b c d e f w
  clear p1 p2 p3
  have dAl := dAl; have dSt := dSt; have xC := ext_cell; have xF := ext_frozen; have xS := ext_set; have xN := ext_drewN; have xD := ext_drew; have xL := ext_lt; have xE := ext_ne; have xG := ext_nr; have xX := ext_ext; have xL1 := ext_lt1; have xL2 := ext_lt2; have xL3 := ext_lt3; have xM0 := ext_le0; have xM1 := ext_le1; have xM2 := ext_le2
  go_enter Try.func32, Try.ntmps32
  go_wp2_with fail
  refine (L1 _).mono ?_
  rintro e w1c ⟨rfl, hb1c⟩
  obtain ⟨l1c, d1c, rfl⟩ := toExt hb1c
  clear hb1c
  go_wp2_with fail
  with_reducible refine (CK _ _ (by simp) (all6 (by simp [li]) (by simp [li]) (by simp [li]) (by simp [li]) (by simp [li]) (by simp [li]))).mono ?_
  rintro e w1 ⟨rfl, hb⟩
  obtain ⟨l1, d1, rfl⟩ := toExt hb
  clear hb CK L1
  go_wp2
  go_ret
  exact ⟨rfl, by (repeat (first | with_reducible exact b0 _ | (with_reducible refine bext ?_ _ _) | (with_reducible refine below_drewN ?_ _) | (with_reducible refine Below.drew ?_) | (with_reducible refine bal ?_ _) | (with_reducible refine bset ?_ (by first | omega | (simp <;> omega)) _)))⟩
end Go.Proofs.Ytmjbeplcabomdaa
