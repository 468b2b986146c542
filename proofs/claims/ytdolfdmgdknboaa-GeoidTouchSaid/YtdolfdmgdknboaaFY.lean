/-
  Signs of products; worlds with six new blocks.  The comparison of four digits.  Worlds that have grown: two steps.
-/
import Derived.Test.YtdolfdmgdknboaaFs2
import Derived.Test.YtdolfdmgdknboaaFn
import Derived.Test.YtdolfdmgdknboaaFz
import Derived.Deep.DeepCutAuto
import Derived.ChangeKeysEq
namespace Go.Proofs.Ytdolfdmgdknboaa
open Go.RowKit
set_option linter.unusedVariables false
set_option linter.unusedSimpArgs false

theorem below6 {w w' : World} {c1 c2 c3 c4 c5 c6 : Array Value} {n : Nat} {t : TypeId} (h : w' = ((((((w.alloc (.cells c1 t)).alloc (.cells c2 t)).alloc (.cells c3 t)).alloc (.cells c4 t)).alloc (.cells c5 t)).alloc (.cells c6 t)).drewN n) : Below w.heap.size w w' := by
  subst h
  (repeat (first | with_reducible exact b0 _ | (with_reducible refine bext ?_ _ _) | (with_reducible refine below_drewN ?_ _) | (with_reducible refine Below.drew ?_) | (with_reducible refine bal ?_ _)))

theorem sgB_right (x y : Int) (h : 0 ≤ y) : sgB x y = decide (x < 0) := by
  unfold sgB
  have e : decide (y < 0) = false := by
    rw [decide_eq_false_iff_not]; omega
  rw [e]
  cases decide (x < 0) <;> rfl

end Go.Proofs.Ytdolfdmgdknboaa
namespace Go.Proofs.Ytdolfdmgdknboaa
open Go.RowKit
set_option linter.unusedVariables false
set_option linter.unusedSimpArgs false

theorem und52 : Try.prog.underlying 126 = some (.array 4 122) := by kernel_rfl
theorem und50 : Try.prog.underlying 122 = some (.int .u64) := by kernel_rfl
theorem cel50 : Try.prog.cellsOf 122 = 1 := by kernel_rfl
theorem big_items (n : Nat) (a b c d a' b' c' d' : Int) (w : World) : Sem.run Try.prog (Op.eqItems (n + 1) 122 1 #[.int .u64 a, .int .u64 b, .int .u64 c, .int .u64 d] #[.int .u64 a', .int .u64 b', .int .u64 c', .int .u64 d'] [0, 1, 2, 3]) w = .ok (a == a' && (b == b' && (c == c' && d == d'))) w := by
  have hq := fun (a b : Int) (w : World) => run_equalIn_int w n 122 .u64 .u64 a b und50
  have hk : Try.prog.plainKey 122 = true := by kernel_rfl
  simp only [Op.eqItems, Sem.run_bind]
  have step : ∀ (i : Nat) (xs ys : Array Value) (x y : Int) (K : Bool → World → Result Bool), xs[i * 1]? = some (.int .u64 x) → ys[i * 1]? = some (.int .u64 y) →
      ((Sem.run Try.prog (part 122 xs (i * 1)) w).andThen fun u w' => (Sem.run Try.prog (part 122 ys (i * 1)) w').andThen fun v w' => (Sem.run Try.prog (Op.equalIn (n + 1) 122 u v) w').andThen K) = K (x == y) w := by
    intro i xs ys x y K h1 h2
    rw [run_part_plain w hk h1]
    simp only [Result.andThen_ok]
    rw [run_part_plain w hk h2]
    simp only [Result.andThen_ok]
    rw [hq]
    rfl
  rw [step 0 _ _ a a' _ rfl rfl]
  cases (a == a')
  · rfl
  simp only [Bool.not_true, Bool.false_eq_true, if_false, Sem.run_bind]
  rw [step 1 _ _ b b' _ rfl rfl]
  cases (b == b')
  · rfl
  simp only [Bool.not_true, Bool.false_eq_true, if_false, Sem.run_bind]
  rw [step 2 _ _ c c' _ rfl rfl]
  cases (c == c')
  · rfl
  simp only [Bool.not_true, Bool.false_eq_true, if_false, Sem.run_bind]
  rw [step 3 _ _ d d' _ rfl rfl]
  cases (d == d') <;> rfl
theorem big_eq (a b c d a' b' c' d' : Int) (w : World) : Sem.run Try.prog (Op.equalIn 9999 126 (.agg #[.int .u64 a, .int .u64 b, .int .u64 c, .int .u64 d]) (.agg #[.int .u64 a', .int .u64 b', .int .u64 c', .int .u64 d'])) w = .ok (a == a' && (b == b' && (c == c' && d == d'))) w := by
  obtain ⟨i, hi⟩ : ∃ i, Try.prog.info? 122 = some i := Option.isSome_iff_exists.mp (by kernel_rfl)
  refine (run_equalIn_array w 9998 _ _ und52 hi).trans ?_
  rw [cel50]
  exact big_items 9997 a b c d a' b' c' d' w
theorem big_zero (q : Int) (h : q = 0) (w : World) : Sem.run Try.prog (Op.equalIn 9999 126 (.agg #[.int .u64 (dg0 q), .int .u64 (dg1 q), .int .u64 (dg2 q), .int .u64 (dg3 q)]) (.agg #[.int .u64 0, .int .u64 0, .int .u64 0, .int .u64 0])) w = .ok true w := by
  rw [big_eq]; subst h; rfl
theorem big_some (q : Int) (h0 : 0 ≤ q) (h1 : q < 340282366920938463463374607431768211456) (h : ¬ q = 0) (w : World) : Sem.run Try.prog (Op.equalIn 9999 126 (.agg #[.int .u64 (dg0 q), .int .u64 (dg1 q), .int .u64 (dg2 q), .int .u64 (dg3 q)]) (.agg #[.int .u64 0, .int .u64 0, .int .u64 0, .int .u64 0])) w = .ok false w := by
  rw [big_eq]
  have e : (dg0 q == 0 && (dg1 q == 0 && (dg2 q == 0 && dg3 q == 0))) = false := by
    rw [Bool.eq_false_iff]
    intro k
    simp only [Bool.and_eq_true, beq_iff_eq, dg0, dg1, dg2, dg3] at k
    omega
  rw [e]
end Go.Proofs.Ytdolfdmgdknboaa
namespace Go.Proofs.Ytdolfdmgdknboaa
open Go.RowKit
set_option linter.unusedVariables false

theorem below_ext (B : Nat) (w : World) (l : List Obj) (d : Nat) (h : B ≤ w.heap.size) : Below B w (ext w l d) :=
  ⟨rfl, rfl, rfl, by rw [ext_size]; omega, fun k hk => by
    unfold ext
    simp only [Array.getElem?_append_left (show k < w.heap.size by omega)]⟩
theorem _root_.Go.RowKit.Below.pre {B : Nat} {a b c : World} (h : Below B b c) (k : Below B a b) : Below B a c := k.trans h

end Go.Proofs.Ytdolfdmgdknboaa
