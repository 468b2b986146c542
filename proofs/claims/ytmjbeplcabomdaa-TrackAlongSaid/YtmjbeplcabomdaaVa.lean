/-
  Vectors: the checks of the reference, the first of three errors, a vector with an error.
-/
import Derived.Test.YtmjbeplcabomdaaKu
import Derived.Test.YtmjbeplcabomdaaQe
import Derived.Test.YtmjbeplcabomdaaVn
namespace Go.Proofs.Ytmjbeplcabomdaa
open Go.RowKit
set_option linter.unusedVariables false
set_option linter.unusedSimpArgs false

set_option maxHeartbeats 400000 in
theorem ref2_Check (a b c d e f : Int) (h1 : okC a b) (h2 : okC c d) (h3 : okC e f) (w : World) :
    Calls Try.prog 41 #[.agg #[.int .i64 a, .int .i64 b, .int .i64 c, .int .i64 d, .int .i64 e, .int .i64 f]] w fun x w' => x = .returned (.int .i64 (chV a b c d e f)) ∧ Below w.heap.size w w' := by
  have A1 := fun w => ref_Both a b c d h1.1 h1.2.1 h1.2.2.1 h1.2.2.2 h2.1 h2.2.1 h2.2.2.1 h2.2.2.2 w
  have A2 := fun w => ref_Check e f h3.1 h3.2.1 h3.2.2.1 h3.2.2.2 w
  clear h1 h2 h3
  by_cases q : okF a b = true ∧ okF c d = true
  · rw [chk2_ok q.1 q.2] at A1
    by_cases r : okF e f = true
    · rw [chkI, if_pos r] at A2
      rw [show chV a b c d e f = 0 by unfold chV okV; rw [q.1, q.2, r]; rfl]
      clear q r
      have xR := xRul
      go_enter Try.func41, Try.ntmps41
      go_wp2_with fail
      refine (A1 _).mono ?_
      rintro e w1c ⟨rfl, hb1c⟩
      obtain ⟨l1c, d1c, rfl⟩ := toExt hb1c
      clear hb1c
      go_wp2_with fail
      refine (A2 _).mono ?_
      rintro e w2c ⟨rfl, hb2c⟩
      obtain ⟨l2c, d2c, rfl⟩ := toExt hb2c
      clear hb2c
      go_wp2
      go_ret
      exact ⟨rfl, kb⟩
    · rw [chkI, if_neg r] at A2
      rw [show chV a b c d e f = 8 by unfold chV okV; rw [if_neg]; simp; intro _ _; simpa using r]
      clear q r
      have xR := xRul
      go_enter Try.func41, Try.ntmps41
      go_wp2_with fail
      refine (A1 _).mono ?_
      rintro e w3c ⟨rfl, hb3c⟩
      obtain ⟨l3c, d3c, rfl⟩ := toExt hb3c
      clear hb3c
      go_wp2_with fail
      refine (A2 _).mono ?_
      rintro e w4c ⟨rfl, hb4c⟩
      obtain ⟨l4c, d4c, rfl⟩ := toExt hb4c
      clear hb4c
      go_wp2
      go_ret
      exact ⟨rfl, kb⟩
  · rw [show chk2 a b c d = 8 by unfold chk2 chkI; by_cases p : okF a b = true
                                 · rw [if_pos p, if_neg (fun k => q ⟨p, k⟩)]
                                 · rw [if_neg p]] at A1
    rw [show chV a b c d e f = 8 by unfold chV okV; rw [if_neg]; simp; intro p1 p2; exact absurd ⟨p1, p2⟩ q]
    clear q A2
    have xR := xRul
    go_enter Try.func41, Try.ntmps41
    go_wp2_with fail
    refine (A1 _).mono ?_
    rintro e w5c ⟨rfl, hb5c⟩
    obtain ⟨l5c, d5c, rfl⟩ := toExt hb5c
    clear hb5c
    go_wp2
    go_ret
    exact ⟨rfl, kb⟩

set_option maxHeartbeats 400000 in
theorem ref2_Both (a b c d e f g h i j k l : Int) (h1 : okC a b) (h2 : okC c d) (h3 : okC e f) (h4 : okC g h) (h5 : okC i j) (h6 : okC k l) (w : World) :
    Calls Try.prog 25 #[.agg #[.int .i64 a, .int .i64 b, .int .i64 c, .int .i64 d, .int .i64 e, .int .i64 f], .agg #[.int .i64 g, .int .i64 h, .int .i64 i, .int .i64 j, .int .i64 k, .int .i64 l]] w fun x w' => x = .returned (.int .i64 (if okV a b c d e f = true then chV g h i j k l else 8)) ∧ Below w.heap.size w w' := by
  have A1 := fun w => ref2_Check a b c d e f h1 h2 h3 w
  have A2 := fun w => ref2_Check g h i j k l h4 h5 h6 w
  clear h1 h2 h3 h4 h5 h6
  by_cases q : okV a b c d e f = true
  · rw [chV, if_pos q] at A1
    rw [if_pos q]
    generalize chV g h i j k l = E at *
    clear q
    have xR := xRul
    go_enter Try.func25, Try.ntmps25
    go_wp2_with fail
    refine (A1 _).mono ?_
    rintro e w6c ⟨rfl, hb6c⟩
    obtain ⟨l6c, d6c, rfl⟩ := toExt hb6c
    clear hb6c
    go_wp2_with fail
    refine (A2 _).mono ?_
    rintro e w7c ⟨rfl, hb7c⟩
    obtain ⟨l7c, d7c, rfl⟩ := toExt hb7c
    clear hb7c
    go_wp2
    go_ret
    exact ⟨rfl, kb⟩
  · rw [chV, if_neg q] at A1
    rw [if_neg q]
    clear q A2
    have xR := xRul
    go_enter Try.func25, Try.ntmps25
    go_wp2_with fail
    refine (A1 _).mono ?_
    rintro e w8c ⟨rfl, hb8c⟩
    obtain ⟨l8c, d8c, rfl⟩ := toExt hb8c
    clear hb8c
    go_wp2
    go_ret
    exact ⟨rfl, kb⟩

end Go.Proofs.Ytmjbeplcabomdaa
