/-
  Package vec: rows of numbers, vector.
-/
import Derived.Test.YtbckjccbihnlnaaVd
namespace Go.Proofs.Ytbckjccbihnlnaa
open Go.RowKit
set_option linter.unusedVariables false
set_option linter.unusedSimpArgs false

theorem all6 {P : Nat → Prop} (p0 : P 0) (p1 : P 1) (p2 : P 2) (p3 : P 3) (p4 : P 4) (p5 : P 5) : ∀ o, o < 6 → P o := by
  intro o ho
  rcases (show o = 0 ∨ o = 1 ∨ o = 2 ∨ o = 3 ∨ o = 4 ∨ o = 5 by omega) with rfl | rfl | rfl | rfl | rfl | rfl <;> assumption
theorem all12 {P : Nat → Prop} (p0 : P 0) (p1 : P 1) (p2 : P 2) (p3 : P 3) (p4 : P 4) (p5 : P 5) (p6 : P 6) (p7 : P 7) (p8 : P 8) (p9 : P 9) (pa : P 10) (pb : P 11) : ∀ o, o < 12 → P o := by
  intro o ho
  rcases Nat.lt_or_ge o 6 with q | q
  · exact all6 p0 p1 p2 p3 p4 p5 o q
  · rcases (show o = 6 ∨ o = 7 ∨ o = 8 ∨ o = 9 ∨ o = 10 ∨ o = 11 by omega) with rfl | rfl | rfl | rfl | rfl | rfl <;> assumption
def li (l : List Int) (o : Nat) : Int := l.getD o 0
theorem rows1 (a b c d e f : Int) : rowsE (li [a, b, c, d, e, f]) 1 = chV a b c d e f := by
  unfold rowsE chV
  by_cases h : okV a b c d e f = true
  · rw [if_pos h, if_pos]
    intro i hi
    obtain rfl : i = 0 := by omega
    exact okV_in h
  · rw [if_neg h, if_neg]
    intro k
    obtain ⟨k1, k2, k3⟩ := k 0 (by omega)
    apply h; unfold okV
    have e1 : okF a b = true := k1
    have e2 : okF c d = true := k2
    have e3 : okF e f = true := k3
    rw [e1, e2, e3]; rfl
theorem rows2 (a b c d e f g h i j k l : Int) : rowsE (li [a, b, c, d, e, f, g, h, i, j, k, l]) 2 = if okV a b c d e f = true ∧ okV g h i j k l = true then 0 else 8 := by
  unfold rowsE
  by_cases q : okV a b c d e f = true ∧ okV g h i j k l = true
  · rw [if_pos q, if_pos]
    intro i hi
    rcases (show i = 0 ∨ i = 1 by omega) with rfl | rfl
    · exact okV_in q.1
    · exact okV_in q.2
  · rw [if_neg q, if_neg]
    intro r
    obtain ⟨k1, k2, k3⟩ := r 0 (by omega)
    obtain ⟨m1, m2, m3⟩ := r 1 (by omega)
    have e1 : okF a b = true := k1
    have e2 : okF c d = true := k2
    have e3 : okF e f = true := k3
    have f1 : okF g h = true := m1
    have f2 : okF i j = true := m2
    have f3 : okF k l = true := m3
    apply q; unfold okV; rw [e1, e2, e3, f1, f2, f3]; exact ⟨rfl, rfl⟩

set_option maxHeartbeats 400000 in
theorem vec_vector (a b c d e f E : Int) (w : World) :
    Calls Try.prog 90 #[.agg #[.int .i64 a, .int .i64 b, .int .i64 c, .int .i64 d, .int .i64 e, .int .i64 f], .int .i64 E] w fun x w' => x = .returned (.tuple #[.agg #[.int .i64 a, .int .i64 b, .int .i64 c, .int .i64 d, .int .i64 e, .int .i64 f], .int .i64 E]) ∧ Below w.heap.size w w' := by
  have dAl := dAl; have dSt := dSt; have xC := ext_cell; have xF := ext_frozen; have xS := ext_set; have xN := ext_drewN; have xD := ext_drew; have xL := ext_lt; have xE := ext_ne; have xG := ext_nr; have xX := ext_ext; have xL1 := ext_lt1; have xL2 := ext_lt2; have xL3 := ext_lt3; have xM0 := ext_le0; have xM1 := ext_le1; have xM2 := ext_le2
  go_enter Try.func90, Try.ntmps90
  go_wp2
  refine bodyPost_ret (by simp [results, Try.results90, go_sem, ext_cell, World.cell?_alloc_past, ltk2, ltk3, ltk4, ltk5, ltk6, ltk7, ltk8, ltk9, *]; try rfl) rfl ?_
  exact ⟨rfl, by (repeat (first | with_reducible exact b0 _ | (with_reducible refine bext ?_ _ _) | (with_reducible refine below_drewN ?_ _) | (with_reducible refine Below.drew ?_) | (with_reducible refine bal ?_ _) | (with_reducible refine bset ?_ (by first | omega | (simp <;> omega)) _)))⟩

end Go.Proofs.Ytbckjccbihnlnaa
