/-
  The reference of track: lists that are the same.
-/
import Derived.Test.YtmjbeplcabomdaaP1c
import Derived.Laws.OwnMore
namespace Go.Proofs.Ytmjbeplcabomdaa
open Go.RowKit
set_option linter.unusedVariables false
set_option linter.unusedSimpArgs false
/-- A list of n directions with these numbers. -/
def lsD (w : World) (v : Value) (n : Nat) (P : Nat → Int) : Prop := (v = .slice none 0 0 ∧ n = 0) ∨ ∃ g cap : Nat, v = .slice (some ⟨g, 0, none⟩) n cap ∧ g < w.heap.size ∧ Cs w g (n * 6) P
theorem lsD_below {w w' : World} {v : Value} {n : Nat} {P : Nat → Int} (h : lsD w v n P) (hb : Below w.heap.size w w') : lsD w' v n P := by
  rcases h with h | ⟨g, cap, e, hg, hc⟩
  · exact Or.inl h
  · exact Or.inr ⟨g, cap, e, Nat.lt_of_lt_of_le hg hb.size, cs_below hc hb hg⟩
theorem lsD_own {w : World} {B : Nat} {v : Value} {n : Nat} {ra dec fr st : Int} (h : w.ownsRow B 30 6 v n (rowP ra dec fr st n)) : lsD w v n (pth ra dec fr st) := by
  have hh := h
  obtain ⟨hl, hx⟩ := h
  rcases hx with hx | ⟨g, cap, cur, hv, h1, h2, _⟩
  · exact Or.inl hx
  · subst hv
    refine Or.inr ⟨g, cap, rfl, (Array.getElem?_eq_some_iff.1 h2).1, ?_⟩
    intro o ho
    rw [World.ownsRow.cellAt hh o ho]
    unfold rowP
    rw [List.getElem?_map, List.getElem?_range (by omega)]
    rfl

set_option maxRecDepth 100000 in
set_option maxHeartbeats 1600000 in
theorem ref6_Same (P : Nat → Int) (va vb : Value) (n : Nat) (hn : n ≤ 1000) (w : World) (ha : lsD w va n P) (hb : lsD w vb n P) :
    Calls Try.prog 21 #[va, vb] w fun x w' => x = .returned (.bool true) ∧ Below w.heap.size w w' := by
  by_cases h0 : n = 0
  · subst h0
    rcases ha with ⟨rfl, _⟩ | ⟨g, cap, rfl, _, _⟩ <;> rcases hb with ⟨rfl, _⟩ | ⟨g', cap', rfl, _, _⟩
    all_goals
      go_enter Try.func21, Try.ntmps21
      go_wp2_with fail
      refine wp_loop_rounds 1 ?_
      rw [rounds_succ]
      go_wp2
      go_ret
      exact ⟨rfl, b0 _⟩
  rcases ha with ⟨_, h⟩ | ⟨g, cap, rfl, hg, hc⟩
  · exact absurd h h0
  rcases hb with ⟨_, h⟩ | ⟨g', cap', rfl, hg', hc'⟩
  · exact absurd h h0
  have CC := Lib.hid hc
  have CD := Lib.hid hc'
  have HG := Lib.hid (And.intro hg hg')
  clear hc hc' hg hg'
  go_enter Try.func21, Try.ntmps21
  go_wp2_with fail
  go_loopg [5] n (fun kk s5 wr => ∃ i : Nat, kk = n - i ∧ s5 = .int .i64 i ∧ i ≤ n ∧ Below w.heap.size w wr)
  case atStart => exact ⟨0, rfl, rfl, by omega, b0 _⟩
  case round =>
    obtain ⟨i, rfl, rfl, him, hbr⟩ := hrel
    have cR := cs_below CC.out hbr HG.out.1
    have cQ := cs_below CD.out hbr HG.out.2
    by_cases hi : i < n
    · have zi : ((i : Int) < (n : Int)) = True := by simp; omega
      have e0 := cR (i * 6) (by omega)
      have f0 := cQ (i * 6) (by omega)
      have e1 := cR (i * 6 + 1) (by omega)
      have f1 := cQ (i * 6 + 1) (by omega)
      have e2 := cR (i * 6 + 2) (by omega)
      have f2 := cQ (i * 6 + 2) (by omega)
      have e3 := cR (i * 6 + 3) (by omega)
      have f3 := cQ (i * 6 + 3) (by omega)
      have e4 := cR (i * 6 + 4) (by omega)
      have f4 := cQ (i * 6 + 4) (by omega)
      have e5 := cR (i * 6 + 5) (by omega)
      have f5 := cQ (i * 6 + 5) (by omega)
      generalize P (i * 6) = p0 at *
      generalize P (i * 6 + 1) = p1 at *
      generalize P (i * 6 + 2) = p2 at *
      generalize P (i * 6 + 3) = p3 at *
      generalize P (i * 6 + 4) = p4 at *
      generalize P (i * 6 + 5) = p5 at *
      have HI := Lib.hid hi
      have i40 : i < 1000 := by omega
      clear cR cQ hi him
      go_wp2_with fail
      go_quiet (fail)
      go_wp2
      go_roundg (n - (i + 1))
      case measure => have := HI.out; omega
      case rel => exact ⟨i + 1, rfl, by go_num, by have := HI.out; omega, by first | exact hbr | exact below_drewN hbr _ | (repeat (first | with_reducible exact hbr | (with_reducible refine bext ?_ _ _) | (with_reducible refine below_drewN ?_ _) | (with_reducible refine Below.drew ?_) | (with_reducible refine bal ?_ _) | (with_reducible refine bset ?_ (by first | omega | (simp <;> omega)) _)))⟩
    · have zi : ((i : Int) < (n : Int)) = False := by simp; omega
      clear cR cQ hi
      go_wp2
      go_ret
      exact ⟨rfl, by (repeat (first | with_reducible exact hbr | (with_reducible refine bext ?_ _ _) | (with_reducible refine below_drewN ?_ _) | (with_reducible refine Below.drew ?_) | (with_reducible refine bal ?_ _) | (with_reducible refine bset ?_ (by first | omega | (simp <;> omega)) _)))⟩
end Go.Proofs.Ytmjbeplcabomdaa
