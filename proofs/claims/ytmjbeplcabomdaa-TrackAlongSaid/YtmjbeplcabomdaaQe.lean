/-
  What the functions of the reference do: checks, orders and parts of numbers of four digits.  What the functions of the reference do: orders, and fractions of numbers of four digits.
-/
import Derived.Test.YtmjbeplcabomdaaFe
import Derived.Test.YtmjbeplcabomdaaFov
namespace Go.Proofs.Ytmjbeplcabomdaa
open Go.RowKit
set_option linter.unusedVariables false
set_option linter.unusedSimpArgs false

set_option maxHeartbeats 400000 in
theorem ref_gcd (a b : Int) (ha : 0 ≤ a) (ha' : a < 18446744073709551616) (hb : 0 ≤ b) (hb' : b < 18446744073709551616) (w : World) :
    Calls Try.prog 74 #[.int .u64 a, .int .u64 b] w fun e w' => e = .returned (.int .u64 (gcdI a b)) ∧ ∃ n, w' = w.drewN n := by
  go_enter Try.func74, Try.ntmps74
  go_wp2
  go_loopw [0, 1] (fun u v wr => ∃ x y : Int, 0 ≤ x ∧ x < 18446744073709551616 ∧ 0 ≤ y ∧ y < 18446744073709551616 ∧ u = .int .u64 x ∧ v = .int .u64 y ∧ gcdI x y = gcdI a b ∧ ∃ n, wr = w.drewN n) (fun _ v _ => (intOf v).toNat)
  case atStart => exact ⟨a, b, ha, ha', hb, hb', rfl, rfl, rfl, 0, rfl⟩
  case round =>
    obtain ⟨x, y, hx, hx', hy, hy', rfl, rfl, hg, n, rfl⟩ := hrel
    have HG := Lib.hid hg; clear hg
    by_cases hy0 : 0 < y
    · have h0 : (y != 0) = true := by simp; omega
      have h1 : (y == 0) = false := by simp; omega
      have l1 := Int.emod_nonneg x (show y ≠ 0 by omega)
      have l2 := Int.emod_lt_of_pos x hy0
      have l3 : gcdI y (x % y) = gcdI x y := by
        unfold gcdI
        rw [Int.natAbs_emod_of_nonneg hx, Nat.gcd_comm, ← Nat.gcd_rec, Nat.gcd_comm]
      have L3 := Lib.hid l3; clear l3
      go_wp2
      go_quiet (fail)
      go_roundw
      case rel => (repeat apply Exists.intro); refine ⟨?_, rfl⟩; exact ⟨y, x % y, by omega, by omega, by omega, by omega, rfl, rfl, L3.out.trans HG.out, n + nq, World.drewN_drewN _ _ _⟩
      case measure => simp [intOf]; omega
    · obtain rfl : y = 0 := by omega
      go_wp2
      go_ret
      refine ⟨ret_u64 ?_, n, rfl⟩
      rw [← HG.out]; simp [gcdI]; omega

set_option maxHeartbeats 400000 in
theorem ref_abs (n : Int) (h0 : -9223372036854775808 ≤ n) (h1 : n ≤ 9223372036854775807) (w : World) :
    Calls Try.prog 75 #[.int .i64 n] w fun e w' => e = .returned (.int .u64 (absI n)) ∧ w' = w := by
  unfold absI
  by_cases hn : n < 0
  · go_enter Try.func75, Try.ntmps75
    go_wp2
    go_ret
    exact ⟨ret_u64 (by omega), rfl⟩
  · go_enter Try.func75, Try.ntmps75
    go_wp2
    go_ret
    exact ⟨ret_u64 (by omega), rfl⟩

set_option maxHeartbeats 1000000 in
theorem ref_Check (n d : Int) (h0 : -9223372036854775808 ≤ n) (h1 : n ≤ 9223372036854775807) (h2 : -9223372036854775808 ≤ d) (h3 : d ≤ 9223372036854775807) (w : World) :
    Calls Try.prog 60 #[.agg #[.int .i64 n, .int .i64 d]] w fun e w' => e = .returned (.int .i64 (chkI n d)) ∧ Below w.heap.size w w' := by
  have A0 := absI_bd n h0 h1
  have A1 := fun w => ref_abs n h0 h1 w
  have hk : (1 ≤ d ∧ d ≤ 1000000000000000000 ∧ -1000000000000000000 ≤ n ∧ n ≤ 1000000000000000000 ∧ gcdI n d = 1) ∨ (1 ≤ d ∧ d ≤ 1000000000000000000 ∧ -1000000000000000000 ≤ n ∧ n ≤ 1000000000000000000 ∧ gcdI n d ≠ 1) ∨ d < 1 ∨ (1 ≤ d ∧ 1000000000000000000 < d) ∨ (1 ≤ d ∧ d ≤ 1000000000000000000 ∧ n < -1000000000000000000) ∨ (1 ≤ d ∧ d ≤ 1000000000000000000 ∧ -1000000000000000000 ≤ n ∧ 1000000000000000000 < n) := by omega
  rcases hk with ⟨k1, k2, k3, k4, k5⟩ | ⟨k1, k2, k3, k4, k5⟩ | k1 | ⟨k1, k2⟩ | ⟨k1, k2, k3⟩ | ⟨k1, k2, k3, k4⟩
  · have K5 : (gcdI (absI n) d != 1) = false := by rw [gcdI_abs, k5]; rfl
    have hr : chkI n d = 0 := by rw [chkI, if_pos]; unfold okF; simp [k1, k2, k3, k4, k5]
    have HR := Lib.hid hr; clear hr k5
    have A2 := fun w => ref_gcd (absI n) d (by omega) (by omega) (by omega) (by omega) w
    have D1 : decide (d < 1) = false := by simp; omega
    have D2 : decide (1000000000000000000 < d) = false := by simp; omega
    have D3 : decide (n < -1000000000000000000) = false := by simp; omega
    have D4 : decide (1000000000000000000 < n) = false := by simp; omega
    go_enter Try.func60, Try.ntmps60
    go_wp2
    go_quiet ((first | (go_at_call 75; exact Calls.quiet_of_same (A1 _)) | (go_at_call 74; exact Calls.quiet_of (A2 _))))
    go_wp2
    go_ret
    exact ⟨ret_i64 HR.out.symm, below_drewN ((Below.refl _ _).alloc (Nat.le_refl _) _) _⟩
  · have K5 : (gcdI (absI n) d != 1) = true := by rw [gcdI_abs]; simp [k5]
    have hr : chkI n d = 8 := by rw [chkI, if_neg]; unfold okF; simp [k1, k2, k3, k4, k5]
    have HR := Lib.hid hr; clear hr k5
    have A2 := fun w => ref_gcd (absI n) d (by omega) (by omega) (by omega) (by omega) w
    have D1 : decide (d < 1) = false := by simp; omega
    have D2 : decide (1000000000000000000 < d) = false := by simp; omega
    have D3 : decide (n < -1000000000000000000) = false := by simp; omega
    have D4 : decide (1000000000000000000 < n) = false := by simp; omega
    go_enter Try.func60, Try.ntmps60
    go_wp2
    go_quiet ((first | (go_at_call 75; exact Calls.quiet_of_same (A1 _)) | (go_at_call 74; exact Calls.quiet_of (A2 _))))
    go_wp2
    go_ret
    exact ⟨ret_i64 HR.out.symm, below_drewN ((Below.refl _ _).alloc (Nat.le_refl _) _) _⟩
  · have hr : chkI n d = 8 := by rw [chkI, if_neg]; unfold okF; simp; omega
    have HR := Lib.hid hr; clear hr A1
    have D1 : decide (d < 1) = true := by simp; omega
    go_enter Try.func60, Try.ntmps60
    go_wp2
    go_quiet (fail)
    go_wp2
    go_ret
    exact ⟨ret_i64 HR.out.symm, below_drewN ((Below.refl _ _).alloc (Nat.le_refl _) _) _⟩
  · have hr : chkI n d = 8 := by rw [chkI, if_neg]; unfold okF; simp; omega
    have HR := Lib.hid hr; clear hr A1
    have D1 : decide (d < 1) = false := by simp; omega
    have D2 : decide (1000000000000000000 < d) = true := by simp; omega
    go_enter Try.func60, Try.ntmps60
    go_wp2
    go_quiet (fail)
    go_wp2
    go_ret
    exact ⟨ret_i64 HR.out.symm, below_drewN ((Below.refl _ _).alloc (Nat.le_refl _) _) _⟩
  · have hr : chkI n d = 8 := by rw [chkI, if_neg]; unfold okF; simp; omega
    have HR := Lib.hid hr; clear hr A1
    have D1 : decide (d < 1) = false := by simp; omega
    have D2 : decide (1000000000000000000 < d) = false := by simp; omega
    have D3 : decide (n < -1000000000000000000) = true := by simp; omega
    go_enter Try.func60, Try.ntmps60
    go_wp2
    go_quiet (fail)
    go_wp2
    go_ret
    exact ⟨ret_i64 HR.out.symm, below_drewN ((Below.refl _ _).alloc (Nat.le_refl _) _) _⟩
  · have hr : chkI n d = 8 := by rw [chkI, if_neg]; unfold okF; simp; omega
    have HR := Lib.hid hr; clear hr A1
    have D1 : decide (d < 1) = false := by simp; omega
    have D2 : decide (1000000000000000000 < d) = false := by simp; omega
    have D3 : decide (n < -1000000000000000000) = false := by simp; omega
    have D4 : decide (1000000000000000000 < n) = true := by simp; omega
    go_enter Try.func60, Try.ntmps60
    go_wp2
    go_quiet (fail)
    go_wp2
    go_ret
    exact ⟨ret_i64 HR.out.symm, below_drewN ((Below.refl _ _).alloc (Nat.le_refl _) _) _⟩
end Go.Proofs.Ytmjbeplcabomdaa
namespace Go.Proofs.Ytmjbeplcabomdaa
open Go.RowKit
set_option linter.unusedVariables false
set_option linter.unusedSimpArgs false

set_option maxHeartbeats 400000 in
theorem ref_Both (n d n2 d2 : Int) (h0 : -9223372036854775808 ≤ n) (h1 : n ≤ 9223372036854775807) (h2 : -9223372036854775808 ≤ d) (h3 : d ≤ 9223372036854775807) (i0 : -9223372036854775808 ≤ n2) (i1 : n2 ≤ 9223372036854775807) (i2 : -9223372036854775808 ≤ d2) (i3 : d2 ≤ 9223372036854775807) (w : World) :
    Calls Try.prog 59 #[.agg #[.int .i64 n, .int .i64 d], .agg #[.int .i64 n2, .int .i64 d2]] w fun e w' => e = .returned (.int .i64 (chk2 n d n2 d2)) ∧ Below w.heap.size w w' := by
  have A1 := fun w => ref_Check n d h0 h1 h2 h3 w
  have A2 := fun w => ref_Check n2 d2 i0 i1 i2 i3 w
  by_cases ho : okF n d = true
  · have hr : chkI n d = 0 := by rw [chkI, if_pos ho]
    have hr2 : chk2 n d n2 d2 = chkI n2 d2 := by rw [chk2, if_pos ho]
    have HR := Lib.hid hr2
    rw [hr] at A1
    clear hr hr2 ho
    have dAl := dAl; have dSt := dSt; have xC := ext_cell; have xF := ext_frozen; have xS := ext_set; have xN := ext_drewN; have xD := ext_drew; have xL := ext_lt; have xE := ext_ne; have xG := ext_nr; have xX := ext_ext; have xL1 := ext_lt1; have xL2 := ext_lt2; have xL3 := ext_lt3; have xM0 := ext_le0; have xM1 := ext_le1; have xM2 := ext_le2
    go_enter Try.func59, Try.ntmps59
    go_wp2_with fail
    refine (A1 _).mono ?_
    rintro e w1c ⟨rfl, hb1c⟩
    obtain ⟨l1c, d1c, rfl⟩ := toExt hb1c
    clear hb1c
    go_wp2_with fail
    refine (A2 _).mono ?_
    rintro e w2c ⟨rfl, hb2c⟩
    obtain ⟨l2c, d2c, rfl⟩ := toExt hb2c
    clear hb2c
    go_wp2
    go_ret
    exact ⟨ret_i64 HR.out.symm, by (repeat (first | with_reducible exact b0 _ | (with_reducible refine bext ?_ _ _) | (with_reducible refine below_drewN ?_ _) | (with_reducible refine Below.drew ?_) | (with_reducible refine bal ?_ _)))⟩
  · have hr : chkI n d = 8 := by rw [chkI, if_neg ho]
    have hr2 : chk2 n d n2 d2 = 8 := by rw [chk2, if_neg ho]
    have HR := Lib.hid hr2
    rw [hr] at A1
    clear hr hr2 ho
    have dAl := dAl; have dSt := dSt; have xC := ext_cell; have xF := ext_frozen; have xS := ext_set; have xN := ext_drewN; have xD := ext_drew; have xL := ext_lt; have xE := ext_ne; have xG := ext_nr; have xX := ext_ext; have xL1 := ext_lt1; have xL2 := ext_lt2; have xL3 := ext_lt3; have xM0 := ext_le0; have xM1 := ext_le1; have xM2 := ext_le2
    go_enter Try.func59, Try.ntmps59
    go_wp2_with fail
    refine (A1 _).mono ?_
    rintro e w3c ⟨rfl, hb3c⟩
    obtain ⟨l3c, d3c, rfl⟩ := toExt hb3c
    clear hb3c
    go_wp2_with fail
    refine (A1 _).mono ?_
    rintro e w4c ⟨rfl, hb4c⟩
    obtain ⟨l4c, d4c, rfl⟩ := toExt hb4c
    clear hb4c
    go_wp2
    go_ret
    exact ⟨ret_i64 HR.out.symm, by (repeat (first | with_reducible exact b0 _ | (with_reducible refine bext ?_ _ _) | (with_reducible refine below_drewN ?_ _) | (with_reducible refine Below.drew ?_) | (with_reducible refine bal ?_ _)))⟩

end Go.Proofs.Ytmjbeplcabomdaa
