/-
  The order of wide numbers, and the fraction of two of them.
-/
import Derived.Test.YtmjbeplcabomdaaFb
import Derived.Test.YtmjbeplcabomdaaFd
namespace Go.Proofs.Ytmjbeplcabomdaa
open Go.RowKit
set_option linter.unusedVariables false

theorem ret_fe {a b c a' b' c' : Int} (h : a = a') (k : b = b') (l : c = c') : Ending.returned (.tuple #[.agg #[.int .i64 a, .int .i64 b], .int .i64 c]) = .returned (.tuple #[.agg #[.int .i64 a', .int .i64 b'], .int .i64 c']) := by rw [h, k, l]

set_option maxHeartbeats 800000 in
theorem frac_build (n n2 : Bool) (m m2 : Int) (h0 : 0 ≤ m) (h1 : m < 340282366920938463463374607431768211456) (i0 : 0 ≤ m2) (i1 : m2 < 340282366920938463463374607431768211456) (w : World) :
    Calls Try.prog 80 #[.agg #[.bool n, .int .u64 (hiI m), .int .u64 (loI m)], .agg #[.bool n2, .int .u64 (hiI m2), .int .u64 (loI m2)]] w fun e w' => e = .returned (.tuple #[.agg #[.int .i64 (bdN n m m2), .int .i64 (bdD n2 m m2)], .int .i64 (bdE m m2)]) ∧ Below w.heap.size w w' := by
  have A1 := fun w => frac_fits n m h0 h1 w
  have A2 := fun w => frac_fits n2 m2 i0 i1 w
  by_cases k1 : m ≤ 1000000000000000000
  · have e1 : fitB m = true := by simp [fitB, k1]
    rw [e1] at A1
    clear e1
    by_cases k2 : m2 ≤ 1000000000000000000
    · have e2 : fitB m2 = true := by simp [fitB, k2]
      rw [e2] at A2
      clear e2
      have r1 : bdN n m m2 = sv n m := by rw [bdN, if_pos ⟨k1, k2⟩]
      have r2 : bdD n2 m m2 = sv n2 m2 := by rw [bdD, if_pos ⟨k1, k2⟩]
      have r3 : bdE m m2 = 0 := by rw [bdE, if_pos ⟨k1, k2⟩]
      have R1 := Lib.hid r1; have R2 := Lib.hid r2; have R3 := Lib.hid r3
      clear r1 r2 r3
      go_enter Try.func80, Try.ntmps80
      go_wp2_with fail
      refine (A1 _).mono ?_
      rintro e w1 ⟨rfl, c1, rfl⟩
      go_wp2_with fail
      refine (A2 _).mono ?_
      rintro e w1 ⟨rfl, c2, rfl⟩
      clear A1 A2
      go_wp2_with fail
      go_region_held3 (fun w' => w'.cell? ⟨w.heap.size, 0, none⟩ = some (.bool n) ∧ w'.cell? ⟨w.heap.size, 1, none⟩ = some (.int .u64 (hiI m)) ∧ w'.cell? ⟨w.heap.size, 2, none⟩ = some (.int .u64 (loI m)) ∧ w'.cell? ⟨w.heap.size + 1, 0, none⟩ = some (.bool n2) ∧ w'.cell? ⟨w.heap.size + 1, 1, none⟩ = some (.int .u64 (hiI m2)) ∧ w'.cell? ⟨w.heap.size + 1, 2, none⟩ = some (.int .u64 (loI m2))) (simp [go_sem, World.cell?_alloc_past])
        ((go_at_call 93; refine (frac_number _ _ (by omega) (by omega) _).mono ?_; rintro e w' ⟨rfl, c3, rfl⟩))
      all_goals go_wp2
      all_goals go_returns
      all_goals exact ⟨ret_fe R1.out.symm R2.out.symm R3.out.symm, by go_grown⟩
    · have e2 : fitB m2 = false := by simp [fitB, k2]
      rw [e2] at A2
      have r1 : bdN n m m2 = 0 := by rw [bdN, if_neg (fun h => k2 h.2)]
      have r2 : bdD n2 m m2 = 0 := by rw [bdD, if_neg (fun h => k2 h.2)]
      have r3 : bdE m m2 = 16 := by rw [bdE, if_neg (fun h => k2 h.2)]
      have R1 := Lib.hid r1; have R2 := Lib.hid r2; have R3 := Lib.hid r3
      clear r1 r2 r3 e2
      go_enter Try.func80, Try.ntmps80
      go_wp2_with fail
      refine (A1 _).mono ?_
      rintro e w1 ⟨rfl, c1, rfl⟩
      go_wp2_with fail
      refine (A2 _).mono ?_
      rintro e w1 ⟨rfl, c2, rfl⟩
      clear A1 A2
      go_wp2
      go_returns
      exact ⟨ret_fe R1.out.symm R2.out.symm R3.out.symm, by go_grown⟩
  · have e1 : fitB m = false := by simp [fitB, k1]
    rw [e1] at A1
    have r1 : bdN n m m2 = 0 := by rw [bdN, if_neg (fun h => k1 h.1)]
    have r2 : bdD n2 m m2 = 0 := by rw [bdD, if_neg (fun h => k1 h.1)]
    have r3 : bdE m m2 = 16 := by rw [bdE, if_neg (fun h => k1 h.1)]
    have R1 := Lib.hid r1; have R2 := Lib.hid r2; have R3 := Lib.hid r3
    clear r1 r2 r3 e1
    go_enter Try.func80, Try.ntmps80
    go_wp2_with fail
    refine (A1 _).mono ?_
    rintro e w1 ⟨rfl, c1, rfl⟩
    clear A1 A2
    go_wp2
    go_returns
    exact ⟨ret_fe R1.out.symm R2.out.symm R3.out.symm, by go_grown⟩

/-- (plus): the sum of two signed numbers: its sign and its absolute value. -/
theorem frac_plus (n n2 : Bool) (m m2 : Int) (h0 : 0 ≤ m) (i0 : 0 ≤ m2) (hs : m + m2 < 340282366920938463463374607431768211456) (w : World) :
    Calls Try.prog 77 #[.agg #[.bool n, .int .u64 (hiI m), .int .u64 (loI m)], .agg #[.bool n2, .int .u64 (hiI m2), .int .u64 (loI m2)]] w fun e w' => e = .returned (.agg #[.bool (plN n m n2 m2), .int .u64 (hiI (plM n m n2 m2)), .int .u64 (loI (plM n m n2 m2))]) ∧ Below w.heap.size w w' := by
  by_cases hn : n = n2
  · rw [plN, plM, if_pos hn, if_pos hn]
    refine (frac_plus_same n n2 m m2 hn h0 i0 hs w).mono ?_
    rintro e w' ⟨rfl, c1, c2, c3, rfl⟩
    exact ⟨rfl, bal (bal (bal (b0 _) _) _) _⟩
  · have hn' : (n == n2) = false := by simpa using hn
    rw [plN, plM, if_neg hn, if_neg hn]
    by_cases hl : m < m2
    · rw [if_pos hl, if_pos hl]
      refine (frac_plus_more n n2 m m2 hn' h0 hl (by omega) w).mono ?_
      rintro e w' ⟨rfl, c1, c2, c3, c4, c5, rfl⟩
      exact ⟨rfl, bal (bal (bal (bal (bal (b0 _) _) _) _) _) _⟩
    · rw [if_neg hl, if_neg hl]
      refine (frac_plus_less n n2 m m2 hn' i0 (by omega) (by omega) w).mono ?_
      rintro e w' ⟨rfl, c1, c2, c3, c4, c5, rfl⟩
      exact ⟨rfl, bal (bal (bal (bal (bal (b0 _) _) _) _) _) _⟩

theorem plM_bd (n n2 : Bool) (m m2 : Int) (h0 : 0 ≤ m) (i0 : 0 ≤ m2) : 0 ≤ plM n m n2 m2 ∧ plM n m n2 m2 ≤ m + m2 := by
  unfold plM; split
  · omega
  · split <;> omega
end Go.Proofs.Ytmjbeplcabomdaa
