/-
  What the functions of package frac do that add, compare and divide numbers of 128 bits.
-/
import Derived.Test.YtmjbeplcabomdaaFa
import Derived.Shelf.Spec.BitsCarry
namespace Go.Proofs.Ytmjbeplcabomdaa
open Go.RowKit
set_option linter.unusedVariables false

def bor (x y b : Int) : Int := if x < y + b then 1 else 0
theorem bor_bd (x y b : Int) : 0 ≤ bor x y b ∧ bor x y b ≤ 1 := by unfold bor; split <;> omega
set_option maxRecDepth 100000 in
theorem add64 (x y c : Int) (x0 : 0 ≤ x) (y0 : 0 ≤ y) (c0 : 0 ≤ c) (c1 : c ≤ 1) (w : World) :
    (callFunc 88 #[.int .u64 x, .int .u64 y, .int .u64 c]).run Try.prog w =
      .ok (.value (.tuple #[.int .u64 ((x + y + c) % 18446744073709551616), .int .u64 ((x + y + c) / 18446744073709551616)])) w := by
  have h := Any7.bits_Add64 Try.lays7x25 x.toNat y.toNat c.toNat (by omega) w
  rw [Int.toNat_of_nonneg x0, Int.toNat_of_nonneg y0, Int.toNat_of_nonneg c0] at h
  refine h.trans ?_
  congr 5 <;> simp [Int.toNat_of_nonneg x0, Int.toNat_of_nonneg y0, Int.toNat_of_nonneg c0]
set_option maxRecDepth 100000 in
theorem sub64 (x y b : Int) (x0 : 0 ≤ x) (y0 : 0 ≤ y) (y1 : y < 18446744073709551616) (c0 : 0 ≤ b) (c1 : b ≤ 1) (w : World) :
    (callFunc 90 #[.int .u64 x, .int .u64 y, .int .u64 b]).run Try.prog w =
      .ok (.value (.tuple #[.int .u64 ((x - y - b) % 18446744073709551616), .int .u64 (bor x y b)])) w := by
  have h := Any7.bits_Sub64 Try.lays7x26 x.toNat y.toNat b.toNat (by omega) w
  rw [Int.toNat_of_nonneg x0, Int.toNat_of_nonneg y0, Int.toNat_of_nonneg c0] at h
  have e1 : (((x.toNat + 18446744073709551616 - y.toNat - b.toNat) % 18446744073709551616 : Nat) : Int) = (x - y - b) % 18446744073709551616 := by omega
  have e2 : ((if x.toNat < y.toNat + b.toNat then 1 else 0 : Nat) : Int) = bor x y b := by unfold bor; split <;> split <;> omega
  rw [e1, e2] at h
  exact h

set_option maxHeartbeats 400000 in
theorem frac_bigger (n n2 : Bool) (m m2 : Int) (h0 : 0 ≤ m) (h1 : m < 340282366920938463463374607431768211456) (i0 : 0 ≤ m2) (i1 : m2 < 340282366920938463463374607431768211456) (w : World) :
    Calls Try.prog 89 #[.agg #[.bool n, .int .u64 (hiI m), .int .u64 (loI m)], .agg #[.bool n2, .int .u64 (hiI m2), .int .u64 (loI m2)]] w fun e w' => e = .returned (.bool (bigB m m2)) ∧ ∃ c1 c2 : Array Value, w' = (w.alloc (.cells c1 118)).alloc (.cells c2 118) := by
  have hk : (hiI m2 < hiI m ∧ bigB m m2 = true) ∨ (hiI m < hiI m2 ∧ bigB m m2 = false) ∨ (hiI m = hiI m2 ∧ loI m2 < loI m ∧ bigB m m2 = true) ∨ (hiI m = hiI m2 ∧ loI m ≤ loI m2 ∧ bigB m m2 = false) := by
    unfold hiI loI bigB; simp; omega
  rcases hk with ⟨k1, k3⟩ | ⟨k1, k3⟩ | ⟨k1, k2, k3⟩ | ⟨k1, k2, k3⟩
  · have HR := Lib.hid k3; clear k3
    go_enter Try.func89, Try.ntmps89
    go_wp2
    go_ret
    exact ⟨ret_bool (by rw [HR.out] <;> simp), _, _, rfl⟩
  · have HR := Lib.hid k3; clear k3
    have K1 : (hiI m == hiI m2) = false := by simp; omega
    go_enter Try.func89, Try.ntmps89
    go_wp2
    go_ret
    exact ⟨ret_bool (by rw [HR.out] <;> simp; omega), _, _, rfl⟩
  · have HR := Lib.hid k3; clear k3
    have K1 : (hiI m == hiI m2) = true := by simp; omega
    have K0 : ¬ (hiI m2 < hiI m) := by omega
    clear k1
    go_enter Try.func89, Try.ntmps89
    go_wp2
    go_ret
    exact ⟨ret_bool (by rw [HR.out] <;> simp [k2]), _, _, rfl⟩
  · have HR := Lib.hid k3; clear k3
    have K1 : (hiI m == hiI m2) = true := by simp; omega
    have K0 : ¬ (hiI m2 < hiI m) := by omega
    clear k1
    go_enter Try.func89, Try.ntmps89
    go_wp2
    go_ret
    exact ⟨ret_bool (by rw [HR.out] <;> simp [k2]), _, _, rfl⟩

set_option maxHeartbeats 800000 in
theorem frac_plus_same (n n2 : Bool) (m m2 : Int) (hn : n = n2) (h0 : 0 ≤ m) (i0 : 0 ≤ m2) (hs : m + m2 < 340282366920938463463374607431768211456) (w : World) :
    Calls Try.prog 77 #[.agg #[.bool n, .int .u64 (hiI m), .int .u64 (loI m)], .agg #[.bool n2, .int .u64 (hiI m2), .int .u64 (loI m2)]] w fun e w' => e = .returned (.agg #[.bool n, .int .u64 (hiI (m + m2)), .int .u64 (loI (m + m2))]) ∧ ∃ c0 c1 c2 : Array Value, w' = ((w.alloc (.cells c0 118)).alloc (.cells c1 118)).alloc (.cells c2 118) := by
  obtain ⟨a1, a2, a3, a4⟩ := hl_bd m h0 (by omega)
  obtain ⟨c1, c2, c3, c4⟩ := hl_bd m2 i0 (by omega)
  have e1 : (loI m + loI m2 + 0) % 18446744073709551616 = loI (m + m2) := by unfold loI; omega
  have e2 : (hiI m + hiI m2 + (loI m + loI m2 + 0) / 18446744073709551616) % 18446744073709551616 = hiI (m + m2) := by unfold hiI loI; omega
  have A1 := fun w => add64 (loI m) (loI m2) 0 a3 c3 (by omega) (by omega) w
  have A2 := fun w => add64 (hiI m) (hiI m2) ((loI m + loI m2 + 0) / 18446744073709551616) a1 c1 (by omega) (by omega) w
  rw [e2] at A2
  rw [e1] at A1
  clear e1 e2
  generalize hcr : (loI m + loI m2 + 0) / 18446744073709551616 = cr at A1 A2
  generalize hcr2 : (hiI m + hiI m2 + cr) / 18446744073709551616 = cr2 at A2
  clear hcr hcr2
  subst hn
  have N : (n == n) = true := by simp
  go_enter Try.func77, Try.ntmps77
  go_wp2
  go_returns
  exact ⟨rfl, _, _, _, rfl⟩

set_option maxHeartbeats 800000 in
theorem frac_plus_less (n n2 : Bool) (m m2 : Int) (hn : (n == n2) = false) (i0 : 0 ≤ m2) (hs : m2 ≤ m) (h1 : m < 340282366920938463463374607431768211456) (w : World) :
    Calls Try.prog 77 #[.agg #[.bool n, .int .u64 (hiI m), .int .u64 (loI m)], .agg #[.bool n2, .int .u64 (hiI m2), .int .u64 (loI m2)]] w fun e w' => e = .returned (.agg #[.bool n, .int .u64 (hiI (m - m2)), .int .u64 (loI (m - m2))]) ∧ ∃ c0 c1 c2 c3 c4 : Array Value, w' = ((((w.alloc (.cells c0 118)).alloc (.cells c1 118)).alloc (.cells c2 118)).alloc (.cells c3 118)).alloc (.cells c4 118) := by
  obtain ⟨a1, a2, a3, a4⟩ := hl_bd m (by omega) (by omega)
  obtain ⟨c1, c2, c3, c4⟩ := hl_bd m2 i0 (by omega)
  have d1 := bor_bd (loI m) (loI m2) 0
  have e1 : (loI m - loI m2 - 0) % 18446744073709551616 = loI (m - m2) := by unfold loI; omega
  have e2 : (hiI m - hiI m2 - bor (loI m) (loI m2) 0) % 18446744073709551616 = hiI (m - m2) := by unfold bor hiI loI; split <;> omega
  have A1 := fun w => sub64 (loI m) (loI m2) 0 a3 c3 c4 (by omega) (by omega) w
  have A2 := fun w => sub64 (hiI m) (hiI m2) (bor (loI m) (loI m2) 0) a1 c1 c2 d1.1 d1.2 w
  have A3 := fun w => frac_bigger n2 n m2 m i0 (by omega) (by omega) h1 w
  have e3 : bigB m2 m = false := by unfold bigB; simp; omega
  rw [e2] at A2
  rw [e1] at A1
  rw [e3] at A3
  clear e1 e2 e3
  generalize hcr : bor (loI m) (loI m2) 0 = cr at A1 A2
  generalize hcr2 : bor (hiI m) (hiI m2) cr = cr2 at A2
  clear hcr hcr2
  go_enter Try.func77, Try.ntmps77
  go_wp2_with fail
  refine (A3 _).mono ?_
  rintro e w1 ⟨rfl, o1, o2, rfl⟩
  go_wp2
  go_returns
  exact ⟨rfl, _, _, _, _, _, rfl⟩

set_option maxHeartbeats 800000 in
theorem frac_plus_more (n n2 : Bool) (m m2 : Int) (hn : (n == n2) = false) (i0 : 0 ≤ m) (hs : m < m2) (h1 : m2 < 340282366920938463463374607431768211456) (w : World) :
    Calls Try.prog 77 #[.agg #[.bool n, .int .u64 (hiI m), .int .u64 (loI m)], .agg #[.bool n2, .int .u64 (hiI m2), .int .u64 (loI m2)]] w fun e w' => e = .returned (.agg #[.bool n2, .int .u64 (hiI (m2 - m)), .int .u64 (loI (m2 - m))]) ∧ ∃ c0 c1 c2 c3 c4 : Array Value, w' = ((((w.alloc (.cells c0 118)).alloc (.cells c1 118)).alloc (.cells c2 118)).alloc (.cells c3 118)).alloc (.cells c4 118) := by
  obtain ⟨a1, a2, a3, a4⟩ := hl_bd m (by omega) (by omega)
  obtain ⟨c1, c2, c3, c4⟩ := hl_bd m2 (by omega) (by omega)
  have d1 := bor_bd (loI m2) (loI m) 0
  have e1 : (loI m2 - loI m - 0) % 18446744073709551616 = loI (m2 - m) := by unfold loI; omega
  have e2 : (hiI m2 - hiI m - bor (loI m2) (loI m) 0) % 18446744073709551616 = hiI (m2 - m) := by unfold bor hiI loI; split <;> omega
  have A1 := fun w => sub64 (loI m2) (loI m) 0 c3 a3 a4 (by omega) (by omega) w
  have A2 := fun w => sub64 (hiI m2) (hiI m) (bor (loI m2) (loI m) 0) c1 a1 a2 d1.1 d1.2 w
  have A3 := fun w => frac_bigger n2 n m2 m (by omega) (by omega) (by omega) (by omega) w
  have e3 : bigB m2 m = true := by unfold bigB; simp; omega
  rw [e2] at A2
  rw [e1] at A1
  rw [e3] at A3
  clear e1 e2 e3
  generalize hcr : bor (loI m2) (loI m) 0 = cr at A1 A2
  generalize hcr2 : bor (hiI m2) (hiI m) cr = cr2 at A2
  clear hcr hcr2
  go_enter Try.func77, Try.ntmps77
  go_wp2_with fail
  refine (A3 _).mono ?_
  rintro e w1 ⟨rfl, o1, o2, rfl⟩
  go_wp2
  go_returns
  exact ⟨rfl, _, _, _, _, _, rfl⟩
end Go.Proofs.Ytmjbeplcabomdaa
