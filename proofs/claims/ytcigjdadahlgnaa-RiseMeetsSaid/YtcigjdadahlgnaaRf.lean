/-
  Windows: the reference's comparison and limit; RiseMeets, walked.
-/
import Derived.Test.YtcigjdadahlgnaaRd
import Derived.Test.YtcigjdadahlgnaaRe
namespace Go.Proofs.Ytcigjdadahlgnaa
open Go.RowKit
set_option linter.unusedVariables false
set_option linter.unusedSimpArgs false
set_option maxRecDepth 100000 in
set_option maxHeartbeats 1600000 in
theorem ref7_Same (sa sb : Option Addr) (n ca cb ga oa gb ob : Nat) (L : List Win) (hn : n ≤ 1000000) (w : World) (ha : slW w sa n ga oa L) (hb : slW w sb n gb ob L) :
    Calls Try.prog 11 #[.slice sa n ca, .slice sb n cb] w fun e w' => e = .returned (.bool true) ∧ Below w.heap.size w w' := by
  have HA := Lib.hid ha
  have HB := Lib.hid hb
  have HN := Lib.hid hn
  clear ha hb hn
  go_enter Try.func11, Try.ntmps11
  go_wp2_with fail
  go_loopg [5] n (fun kk s5 wr => ∃ i : Nat, kk = n - i ∧ s5 = .int .i64 i ∧ i ≤ n ∧ Below w.heap.size w wr)
  case atStart => exact ⟨0, rfl, rfl, by omega, b0 _⟩
  case round =>
    obtain ⟨i, rfl, rfl, him, hbr⟩ := hrel
    by_cases hi : i < n
    · have zi : ((i : Int) < (n : Int)) = True := by simp; omega
      obtain ⟨-, p2, p3⟩ := slW_up HA.out hbr
      obtain ⟨rfl, hg⟩ := p2 (by omega)
      obtain ⟨-, q2, q3⟩ := slW_up HB.out hbr
      obtain ⟨rfl, hh⟩ := q2 (by omega)
      obtain ⟨e0, e1⟩ := p3 i hi
      obtain ⟨f0, f1⟩ := q3 i hi
      generalize fW L i = a at *
      generalize tW L i = b at *
      have HI := Lib.hid hi
      have i40 : i ≤ 1000000 := by have := HN.out; omega
      have ki : i < n := hi
      clear p2 p3 q2 q3 him hi
      go_wp2_with fail
      go_quiet (fail)
      go_wp2
      go_roundg (n - (i + 1))
      case measure => have := HI.out; omega
      case rel => exact ⟨i + 1, rfl, by go_num, by have := HI.out; omega, by first | exact hbr | exact below_drewN hbr _ | (repeat (first | with_reducible exact hbr | (with_reducible refine bext ?_ _ _) | (with_reducible refine below_drewN ?_ _) | (with_reducible refine Below.drew ?_) | (with_reducible refine bal ?_ _) | (with_reducible refine bset ?_ (by first | omega | (simp <;> omega)) _)))⟩
    · have zi : ((i : Int) < (n : Int)) = False := by simp; omega
      clear hi
      go_wp2
      go_ret
      exact ⟨rfl, by (repeat (first | with_reducible exact hbr | (with_reducible refine bext ?_ _ _) | (with_reducible refine below_drewN ?_ _) | (with_reducible refine Below.drew ?_) | (with_reducible refine bal ?_ _) | (with_reducible refine bset ?_ (by first | omega | (simp <;> omega)) _)))⟩
set_option maxHeartbeats 400000 in
theorem ref7_Great (s : Option Addr) (n cap : Nat) (w : World) :
    Calls Try.prog 4 #[.slice s n cap] w fun e w' => e = .returned (.bool (decide ((40 < n ∧ n ≤ 1000) ∨ 1010 < n))) ∧ Below w.heap.size w w' := by
  by_cases h1 : 40 < n
  · have z1 : ((40 : Int) < (n : Int)) = True := by simp; omega
    by_cases h2 : n ≤ 1000
    · have z2 : ((n : Int) ≤ 1000) = True := by simp; omega
      rw [decide_eq_true (show (40 < n ∧ n ≤ 1000) ∨ 1010 < n by omega)]
      clear h1 h2
      go_enter Try.func4, Try.ntmps4
      go_wp2
      go_ret
      exact ⟨rfl, b0 _⟩
    · have z2 : ((n : Int) ≤ 1000) = False := by simp; omega
      by_cases h3 : 1010 < n
      · have z3 : ((1010 : Int) < (n : Int)) = True := by simp; omega
        rw [decide_eq_true (show (40 < n ∧ n ≤ 1000) ∨ 1010 < n by omega)]
        clear h1 h2 h3
        go_enter Try.func4, Try.ntmps4
        go_wp2
        go_ret
        exact ⟨rfl, b0 _⟩
      · have z3 : ((1010 : Int) < (n : Int)) = False := by simp; omega
        rw [decide_eq_false (show ¬ ((40 < n ∧ n ≤ 1000) ∨ 1010 < n) by omega)]
        clear h1 h2 h3
        go_enter Try.func4, Try.ntmps4
        go_wp2
        go_ret
        exact ⟨rfl, b0 _⟩
  · have z1 : ((40 : Int) < (n : Int)) = False := by simp; omega
    have z3 : ((1010 : Int) < (n : Int)) = False := by simp; omega
    rw [decide_eq_false (show ¬ ((40 < n ∧ n ≤ 1000) ∨ 1010 < n) by omega)]
    clear h1
    go_enter Try.func4, Try.ntmps4
    go_wp2
    go_ret
    exact ⟨rfl, b0 _⟩
end Go.Proofs.Ytcigjdadahlgnaa
