/-
  The comparison of four digits.
-/
import Derived.Test.YtilcgbloangcmaaFlb
import Derived.ChangeKeysEq
namespace Go.Proofs.Ytilcgbloangcmaa
open Go.RowKit
set_option linter.unusedVariables false
set_option linter.unusedSimpArgs false

theorem und52 : Try.prog.underlying 72 = some (.array 4 63) := by kernel_rfl
theorem und50 : Try.prog.underlying 63 = some (.int .u64) := by kernel_rfl
theorem cel50 : Try.prog.cellsOf 63 = 1 := by kernel_rfl
theorem big_items (n : Nat) (a b c d a' b' c' d' : Int) (w : World) : Sem.run Try.prog (Op.eqItems (n + 1) 63 1 #[.int .u64 a, .int .u64 b, .int .u64 c, .int .u64 d] #[.int .u64 a', .int .u64 b', .int .u64 c', .int .u64 d'] [0, 1, 2, 3]) w = .ok (a == a' && (b == b' && (c == c' && d == d'))) w := by
  have hq := fun (a b : Int) (w : World) => run_equalIn_int w n 63 .u64 .u64 a b und50
  have hk : Try.prog.plainKey 63 = true := by kernel_rfl
  simp only [Op.eqItems, Sem.run_bind]
  have step : ∀ (i : Nat) (xs ys : Array Value) (x y : Int) (K : Bool → World → Result Bool), xs[i * 1]? = some (.int .u64 x) → ys[i * 1]? = some (.int .u64 y) →
      ((Sem.run Try.prog (part 63 xs (i * 1)) w).andThen fun u w' => (Sem.run Try.prog (part 63 ys (i * 1)) w').andThen fun v w' => (Sem.run Try.prog (Op.equalIn (n + 1) 63 u v) w').andThen K) = K (x == y) w := by
    intro i xs ys x y K h1 h2
    rw [run_part_plain w hk h1]
    simp only [Result.andThen_ok]
    rw [run_part_plain w hk h2]
    simp only [Result.andThen_ok]
    rw [hq]
    rfl
  rw [step 0 _ _ a a' _ rfl rfl]
  cases (a == a')
  · rfl
  simp only [Bool.not_true, Bool.false_eq_true, if_false, Sem.run_bind]
  rw [step 1 _ _ b b' _ rfl rfl]
  cases (b == b')
  · rfl
  simp only [Bool.not_true, Bool.false_eq_true, if_false, Sem.run_bind]
  rw [step 2 _ _ c c' _ rfl rfl]
  cases (c == c')
  · rfl
  simp only [Bool.not_true, Bool.false_eq_true, if_false, Sem.run_bind]
  rw [step 3 _ _ d d' _ rfl rfl]
  cases (d == d') <;> rfl
theorem big_eq (a b c d a' b' c' d' : Int) (w : World) : Sem.run Try.prog (Op.equalIn 9999 72 (.agg #[.int .u64 a, .int .u64 b, .int .u64 c, .int .u64 d]) (.agg #[.int .u64 a', .int .u64 b', .int .u64 c', .int .u64 d'])) w = .ok (a == a' && (b == b' && (c == c' && d == d'))) w := by
  obtain ⟨i, hi⟩ : ∃ i, Try.prog.info? 63 = some i := Option.isSome_iff_exists.mp (by kernel_rfl)
  refine (run_equalIn_array w 9998 _ _ und52 hi).trans ?_
  rw [cel50]
  exact big_items 9997 a b c d a' b' c' d' w
theorem big_zero (q : Int) (h : q = 0) (w : World) : Sem.run Try.prog (Op.equalIn 9999 72 (.agg #[.int .u64 (dg0 q), .int .u64 (dg1 q), .int .u64 (dg2 q), .int .u64 (dg3 q)]) (.agg #[.int .u64 0, .int .u64 0, .int .u64 0, .int .u64 0])) w = .ok true w := by
  rw [big_eq]; subst h; rfl
theorem big_some (q : Int) (h0 : 0 ≤ q) (h1 : q < 340282366920938463463374607431768211456) (h : ¬ q = 0) (w : World) : Sem.run Try.prog (Op.equalIn 9999 72 (.agg #[.int .u64 (dg0 q), .int .u64 (dg1 q), .int .u64 (dg2 q), .int .u64 (dg3 q)]) (.agg #[.int .u64 0, .int .u64 0, .int .u64 0, .int .u64 0])) w = .ok false w := by
  rw [big_eq]
  have e : (dg0 q == 0 && (dg1 q == 0 && (dg2 q == 0 && dg3 q == 0))) = false := by
    rw [Bool.eq_false_iff]
    intro k
    simp only [Bool.and_eq_true, beq_iff_eq, dg0, dg1, dg2, dg3] at k
    omega
  rw [e]
end Go.Proofs.Ytilcgbloangcmaa
