/-
  Vectors of whole numbers.
-/
import Derived.Test.YtlijkebdaalldaaKu
import Derived.Test.YtlijkebdaalldaaMA
namespace Go.Proofs.Ytlijkebdaalldaa
open Go.RowKit
set_option linter.unusedVariables false
set_option linter.unusedSimpArgs false

def fq6 (a b c d e f : Int) : Nat → Int
  | 0 => a
  | 1 => b
  | 2 => c
  | 3 => d
  | 4 => e
  | _ => f
def fq2 (x y : Int) : Nat → Int
  | 0 => x
  | _ => y
theorem arq2 (x y : Int) : ∀ o, o < 2 → (#[Value.int .i64 x, Value.int .i64 y] : Array Value)[o]? = some (.int .i64 (fq2 x y o)) := by
  intro o ho
  rcases (show o = 0 ∨ o = 1 by omega) with rfl | rfl <;> rfl
theorem plaingq {ops : Array Oper} {rest : List Oper} {o : Oper} {a : Act} {w : World} {Q : Exit → Act → World → Prop} (hw : Region.wanted o (yielded ops a.tmps) = true) (h : ∀ K : Act → World → Prop, (∀ a w, wpList Try.prog ops Q rest a w → K a w) → o.wp Try.prog a w K Q) : wpList Try.prog ops Q (o :: rest) a w :=
  wpList_step fun K hK => by rw [if_pos hw]; exact h K hK
theorem ref_Of (n : Int) (w : World) : Calls Try.prog 8 #[.int .i64 n] w fun x w' => x = .returned (.agg #[.int .i64 n, .int .i64 1]) ∧ Below w.heap.size w w' := by
  have xR := xRul
  go_enter Try.func8, Try.ntmps8
  go_wp2
  refine bodyPost_ret (by simp [results, Try.results8, go_sem, ext_cell, kp, *]; try rfl) rfl ?_
  exact ⟨rfl, kb⟩
theorem law_of (x y z : Int) (w : World) : Calls Try.prog 11 #[.int .i64 x, .int .i64 y, .int .i64 z] w fun r w' => r = .returned (.agg #[.int .i64 x, .int .i64 1, .int .i64 y, .int .i64 1, .int .i64 z, .int .i64 1]) ∧ Below w.heap.size w w' := by
  have xR := xRul
  have A0 := fun w => ref_Of x w
  have A1 := fun w => ref_Of y w
  have A2 := fun w => ref_Of z w
  go_enter Try.func11, Try.ntmps11
  go_wp2_with fail
  refine (A0 _).mono ?_
  rintro e w1c ⟨rfl, hb1c⟩
  obtain ⟨l1c, d1c, rfl⟩ := toExt hb1c
  clear hb1c
  go_wp2_with fail
  refine (A1 _).mono ?_
  rintro e w2c ⟨rfl, hb2c⟩
  obtain ⟨l2c, d2c, rfl⟩ := toExt hb2c
  clear hb2c
  go_wp2_with fail
  refine (A2 _).mono ?_
  rintro e w3c ⟨rfl, hb3c⟩
  obtain ⟨l3c, d3c, rfl⟩ := toExt hb3c
  clear hb3c
  go_wp2
  refine bodyPost_ret (by simp [results, Try.results11, go_sem, ext_cell, kp, *]; try rfl) rfl ?_
  exact ⟨rfl, kb⟩
end Go.Proofs.Ytlijkebdaalldaa
