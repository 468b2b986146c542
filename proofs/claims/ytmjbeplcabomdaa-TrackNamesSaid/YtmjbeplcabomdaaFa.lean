/-
  What the functions of package frac do that only reckon with numbers of 64 and 128 bits.
-/
import Derived.Test.YtmjbeplcabomdaaRows
import Derived.WalkKit
import Derived.WalkSpells
import Derived.WalkLawsBesides
import Derived.Lib.Hide
import Derived.Handy
import Derived.Deep.QuietTactic
import Derived.BigQuiet
import Derived.Deep.RegionHeld3
import Derived.Test.YtmjbeplcabomdaaFm
import Derived.Test.YtmjbeplcabomdaaShelf
namespace Go.Proofs.Ytmjbeplcabomdaa
open Go.RowKit

theorem ret_u64 {a b : Int} (h : a = b) : Ending.returned (.int .u64 a) = .returned (.int .u64 b) := by rw [h]
theorem ret_i64 {a b : Int} (h : a = b) : Ending.returned (.int .i64 a) = .returned (.int .i64 b) := by rw [h]
theorem ret_ii {a b c d : Int} (h : a = c) (k : b = d) : Ending.returned (.tuple #[.int .i64 a, .int .i64 b]) = .returned (.tuple #[.int .i64 c, .int .i64 d]) := by rw [h, k]
theorem ret_uu {a b c d : Int} (h : a = c) (k : b = d) : Ending.returned (.tuple #[.int .u64 a, .int .u64 b]) = .returned (.tuple #[.int .u64 c, .int .u64 d]) := by rw [h, k]
set_option maxHeartbeats 400000 in
theorem frac_gcd (a b : Int) (ha : 0 ≤ a) (ha' : a < 18446744073709551616) (hb : 0 ≤ b) (hb' : b < 18446744073709551616) (w : World) :
    Calls Try.prog 76 #[.int .u64 a, .int .u64 b] w fun e w' => e = .returned (.int .u64 (gcdI a b)) ∧ ∃ n, w' = w.drewN n := by
  go_enter Try.func76, Try.ntmps76
  go_wp2
  go_loopw [0, 1] (fun u v wr => ∃ x y : Int, 0 ≤ x ∧ x < 18446744073709551616 ∧ 0 ≤ y ∧ y < 18446744073709551616 ∧ u = .int .u64 x ∧ v = .int .u64 y ∧ gcdI x y = gcdI a b ∧ ∃ n, wr = w.drewN n) (fun _ v _ => (intOf v).toNat)
  case atStart => exact ⟨a, b, ha, ha', hb, hb', rfl, rfl, rfl, 0, rfl⟩
  case round =>
    obtain ⟨x, y, hx, hx', hy, hy', rfl, rfl, hg, n, rfl⟩ := hrel
    have HG := Lib.hid hg; clear hg
    by_cases hy0 : 0 < y
    · have h0 : (y != 0) = true := by simp; omega
      have h1 : (y == 0) = false := by simp; omega
      have l1 := Int.emod_nonneg x (show y ≠ 0 by omega)
      have l2 := Int.emod_lt_of_pos x hy0
      have l3 : gcdI y (x % y) = gcdI x y := by
        unfold gcdI
        rw [Int.natAbs_emod_of_nonneg hx, Nat.gcd_comm, ← Nat.gcd_rec, Nat.gcd_comm]
      have L3 := Lib.hid l3; clear l3
      go_wp2
      go_quiet (fail)
      go_roundw
      case rel => (repeat apply Exists.intro); refine ⟨?_, rfl⟩; exact ⟨y, x % y, by omega, by omega, by omega, by omega, rfl, rfl, L3.out.trans HG.out, n + nq, World.drewN_drewN _ _ _⟩
      case measure => simp [intOf]; omega
    · obtain rfl : y = 0 := by omega
      go_wp2
      go_ret
      refine ⟨ret_u64 ?_, n, rfl⟩
      rw [← HG.out]; simp [gcdI]; omega

set_option maxHeartbeats 400000 in
theorem frac_size (n : Int) (h0 : -9223372036854775808 ≤ n) (h1 : n ≤ 9223372036854775807) (w : World) :
    Calls Try.prog 82 #[.int .i64 n] w fun e w' => e = .returned (.int .u64 (absI n)) ∧ w' = w := by
  unfold absI
  by_cases hn : n < 0
  · go_enter Try.func82, Try.ntmps82
    go_wp2
    go_ret
    exact ⟨ret_u64 (by rw [IntKind.wrap_u64, IntKind.wrap_u64]; omega), rfl⟩
  · go_enter Try.func82, Try.ntmps82
    go_wp2
    go_ret
    exact ⟨ret_u64 (by omega), rfl⟩

set_option maxHeartbeats 400000 in
theorem frac_Check (n d : Int) (h0 : -9223372036854775808 ≤ n) (h1 : n ≤ 9223372036854775807) (h2 : -9223372036854775808 ≤ d) (h3 : d ≤ 9223372036854775807) (w : World) :
    Calls Try.prog 67 #[.agg #[.int .i64 n, .int .i64 d]] w fun e w' => e = .returned (.int .i64 (chkI n d)) ∧ Below w.heap.size w w' := by
  have A0 := absI_bd n h0 h1
  have A1 := fun w => frac_size n h0 h1 w
  have hk : (1 ≤ d ∧ d ≤ 1000000000000000000 ∧ -1000000000000000000 ≤ n ∧ n ≤ 1000000000000000000 ∧ gcdI n d = 1) ∨ (1 ≤ d ∧ d ≤ 1000000000000000000 ∧ -1000000000000000000 ≤ n ∧ n ≤ 1000000000000000000 ∧ gcdI n d ≠ 1) ∨ d < 1 ∨ (1 ≤ d ∧ 1000000000000000000 < d) ∨ (1 ≤ d ∧ d ≤ 1000000000000000000 ∧ n < -1000000000000000000) ∨ (1 ≤ d ∧ d ≤ 1000000000000000000 ∧ -1000000000000000000 ≤ n ∧ 1000000000000000000 < n) := by omega
  rcases hk with ⟨k1, k2, k3, k4, k5⟩ | ⟨k1, k2, k3, k4, k5⟩ | k1 | ⟨k1, k2⟩ | ⟨k1, k2, k3⟩ | ⟨k1, k2, k3, k4⟩
  · have K5 : (gcdI (absI n) d != 1) = false := by rw [gcdI_abs, k5]; rfl
    have hr : chkI n d = 0 := by rw [chkI, if_pos]; unfold okF; simp [k1, k2, k3, k4, k5]
    have HR := Lib.hid hr; clear hr k5
    have A2 := fun w => frac_gcd (absI n) d (by omega) (by omega) (by omega) (by omega) w
    go_enter Try.func67, Try.ntmps67
    go_wp2
    go_quiet ((first | (go_at_call 82; exact Calls.quiet_of_same (A1 _)) | (go_at_call 76; exact Calls.quiet_of (A2 _))))
    go_wp2
    go_ret
    exact ⟨ret_i64 HR.out.symm, below_drewN ((Below.refl _ _).alloc (Nat.le_refl _) _) _⟩
  · have K5 : (gcdI (absI n) d != 1) = true := by rw [gcdI_abs]; simp [k5]
    have hr : chkI n d = 8 := by rw [chkI, if_neg]; unfold okF; simp [k1, k2, k3, k4, k5]
    have HR := Lib.hid hr; clear hr k5
    have A2 := fun w => frac_gcd (absI n) d (by omega) (by omega) (by omega) (by omega) w
    go_enter Try.func67, Try.ntmps67
    go_wp2
    go_quiet ((first | (go_at_call 82; exact Calls.quiet_of_same (A1 _)) | (go_at_call 76; exact Calls.quiet_of (A2 _))))
    go_wp2
    go_ret
    exact ⟨ret_i64 HR.out.symm, below_drewN ((Below.refl _ _).alloc (Nat.le_refl _) _) _⟩
  all_goals
    have hr : chkI n d = 8 := by rw [chkI, if_neg]; unfold okF; simp; omega
    have HR := Lib.hid hr; clear hr
    go_enter Try.func67, Try.ntmps67
    go_wp2
    go_ret
    exact ⟨ret_i64 HR.out.symm, (Below.refl _ _).alloc (Nat.le_refl _) _⟩

end Go.Proofs.Ytmjbeplcabomdaa
