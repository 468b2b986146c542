/-
  The division of the reference, bit by bit.
-/
import Derived.Test.YtmjbeplcabomdaaFt
import Derived.Test.YtmjbeplcabomdaaFov
namespace Go.Proofs.Ytmjbeplcabomdaa
open Go.RowKit
set_option linter.unusedVariables false
set_option linter.unusedSimpArgs false

set_option maxHeartbeats 3200000 in
theorem ref_Over (m n : Int) (h0 : 0 ≤ m) (h1 : m < 340282366920938463463374607431768211456) (n0 : 0 < n) (n1 : n < 4611686018427387904) (w : World) :
    Calls Try.prog 101 #[.agg #[.int .u64 (dg0 m), .int .u64 (dg1 m), .int .u64 (dg2 m), .int .u64 (dg3 m)], .int .u64 n] w fun e w' => e = .returned (.tuple #[.agg #[.int .u64 (dg0 (m / n)), .int .u64 (dg1 (m / n)), .int .u64 (dg2 (m / n)), .int .u64 (dg3 (m / n))], .int .u64 (m % n)]) ∧ Below w.heap.size w w' := by
  obtain ⟨a1, a2, a3, a4, a5, a6, a7, a8⟩ := dg_bd m
  have dAl := dAl; have dSt := dSt; have xC := ext_cell; have xF := ext_frozen; have xS := ext_set; have xN := ext_drewN; have xD := ext_drew; have xL := ext_lt; have xE := ext_ne; have xG := ext_nr; have xX := ext_ext; have xL1 := ext_lt1; have xL2 := ext_lt2; have xL3 := ext_lt3; have xM0 := ext_le0; have xM1 := ext_le1; have xM2 := ext_le2
  go_enter Try.func101, Try.ntmps101
  go_wp2
  refine wp_loop_rounds 5 ?_
  rw [rounds_succ]
  go_wp2
  go_loopw [7, 9] (fun r b wr => ∃ (k : Nat) (q r1 : Int) (nn : Nat), k ≤ 32 ∧ Dv.ovI 0 (dg3 m) n k q r1 ∧ b = .int .i64 ((k : Int) - 1) ∧ r = .int .u64 r1 ∧ wr = (((w.alloc (.cells #[.int .u64 (dg0 m), .int .u64 (dg1 m), .int .u64 (dg2 m), .int .u64 (dg3 m)] 138)).alloc (.cells #[.int .u64 0, .int .u64 0, .int .u64 0, .int .u64 0] 138)).alloc (.cells #[.int .u64 0, .int .u64 0, .int .u64 0, .int .u64 q] 138)).drewN nn) (fun _ b _ => (intOf b + 1).toNat)
  case atStart => exact ⟨32, 0, 0, 0, by omega, Dv.ov_start _ _ _ (by omega) (by omega) (by omega) (by omega), rfl, rfl, rfl⟩
  case round =>
    obtain ⟨k, q3, r13, nn3, hk, hI, rfl, rfl, rfl⟩ := hrel
    obtain ⟨f3a, f3b, f3c, hd, he⟩ := id hI
    have qr := Dv.ov_room _ _ _ _ _ _ hI (by omega) (by omega) hk
    have pk := Dv.pow_pos k
    have HI := Lib.hid hI
    clear hd he hI
    by_cases hk0 : 1 ≤ k
    · obtain ⟨j, rfl⟩ : ∃ j, k = j + 1 := ⟨k - 1, by omega⟩
      have ej : (((j + 1 : Nat) : Int) - 1) = (j : Int) := by omega
      rw [ej]
      clear ej hk0
      have eB := Dv.ov_bit r13 (dg3 m) j (by omega) (by omega) (by omega) (by omega)
      have e0 : 0 ≤ dg3 m / 2 ^ j % 2 := by omega
      have e1 : dg3 m / 2 ^ j % 2 < 2 := by omega
      by_cases hn : n ≤ r13 * 2 + dg3 m / 2 ^ j % 2
      · have hx := Dv.ov_take _ _ _ _ _ _ HI.out hn
        have qs := Dv.ov_set q3 j f3a HI.out.2.2.2.1 (by omega)
        have HX := Lib.hid hx
        clear hx
        go_wp2
        go_region
        go_wp2
        exact ⟨⟨j, _, _, _, by omega, HX.out, rfl, rfl, rfl⟩, by simp [intOf] <;> omega⟩
      · have hx := Dv.ov_keep _ _ _ _ _ _ HI.out (by omega)
        have HX := Lib.hid hx
        clear hx
        go_wp2
        exact ⟨⟨j, q3, _, nn3, by omega, HX.out, rfl, rfl, rfl⟩, by simp [intOf] <;> omega⟩
    · obtain rfl : k = 0 := by omega
      obtain ⟨eq3, er3⟩ := Dv.ov_end _ _ _ _ _ HI.out
      have EQ3 := Lib.hid eq3; have ER3 := Lib.hid er3
      clear eq3 er3 HI hk0 hk pk
      have f3d : q3 < 4294967296 := by omega
      clear qr
      go_wp2
      rw [rounds_succ]
      go_wp2
      go_loopw [7, 9] (fun r b wr => ∃ (k : Nat) (q r1 : Int) (nn : Nat), k ≤ 32 ∧ Dv.ovI r13 (dg2 m) n k q r1 ∧ b = .int .i64 ((k : Int) - 1) ∧ r = .int .u64 r1 ∧ wr = (((w.alloc (.cells #[.int .u64 (dg0 m), .int .u64 (dg1 m), .int .u64 (dg2 m), .int .u64 (dg3 m)] 138)).alloc (.cells #[.int .u64 0, .int .u64 0, .int .u64 0, .int .u64 0] 138)).alloc (.cells #[.int .u64 0, .int .u64 0, .int .u64 q, .int .u64 q3] 138)).drewN nn) (fun _ b _ => (intOf b + 1).toNat)
      case atStart => exact ⟨32, 0, r13, nn3, by omega, Dv.ov_start _ _ _ (by omega) (by omega) (by omega) (by omega), rfl, rfl, rfl⟩
      case round =>
        obtain ⟨k, q2, r12, nn2, hk, hI, rfl, rfl, rfl⟩ := hrel
        obtain ⟨f2a, f2b, f2c, hd, he⟩ := id hI
        have qr := Dv.ov_room _ _ _ _ _ _ hI (by omega) (by omega) hk
        have pk := Dv.pow_pos k
        have HI := Lib.hid hI
        clear hd he hI
        by_cases hk0 : 1 ≤ k
        · obtain ⟨j, rfl⟩ : ∃ j, k = j + 1 := ⟨k - 1, by omega⟩
          have ej : (((j + 1 : Nat) : Int) - 1) = (j : Int) := by omega
          rw [ej]
          clear ej hk0
          have eB := Dv.ov_bit r12 (dg2 m) j (by omega) (by omega) (by omega) (by omega)
          have e0 : 0 ≤ dg2 m / 2 ^ j % 2 := by omega
          have e1 : dg2 m / 2 ^ j % 2 < 2 := by omega
          by_cases hn : n ≤ r12 * 2 + dg2 m / 2 ^ j % 2
          · have hx := Dv.ov_take _ _ _ _ _ _ HI.out hn
            have qs := Dv.ov_set q2 j f2a HI.out.2.2.2.1 (by omega)
            have HX := Lib.hid hx
            clear hx
            go_wp2
            go_region
            go_wp2
            exact ⟨⟨j, _, _, _, by omega, HX.out, rfl, rfl, rfl⟩, by simp [intOf] <;> omega⟩
          · have hx := Dv.ov_keep _ _ _ _ _ _ HI.out (by omega)
            have HX := Lib.hid hx
            clear hx
            go_wp2
            exact ⟨⟨j, q2, _, nn2, by omega, HX.out, rfl, rfl, rfl⟩, by simp [intOf] <;> omega⟩
        · obtain rfl : k = 0 := by omega
          obtain ⟨eq2, er2⟩ := Dv.ov_end _ _ _ _ _ HI.out
          have EQ2 := Lib.hid eq2; have ER2 := Lib.hid er2
          clear eq2 er2 HI hk0 hk pk
          have f2d : q2 < 4294967296 := by omega
          clear qr
          go_wp2
          rw [rounds_succ]
          go_wp2
          go_loopw [7, 9] (fun r b wr => ∃ (k : Nat) (q r1 : Int) (nn : Nat), k ≤ 32 ∧ Dv.ovI r12 (dg1 m) n k q r1 ∧ b = .int .i64 ((k : Int) - 1) ∧ r = .int .u64 r1 ∧ wr = (((w.alloc (.cells #[.int .u64 (dg0 m), .int .u64 (dg1 m), .int .u64 (dg2 m), .int .u64 (dg3 m)] 138)).alloc (.cells #[.int .u64 0, .int .u64 0, .int .u64 0, .int .u64 0] 138)).alloc (.cells #[.int .u64 0, .int .u64 q, .int .u64 q2, .int .u64 q3] 138)).drewN nn) (fun _ b _ => (intOf b + 1).toNat)
          case atStart => exact ⟨32, 0, r12, nn2, by omega, Dv.ov_start _ _ _ (by omega) (by omega) (by omega) (by omega), rfl, rfl, rfl⟩
          case round =>
            obtain ⟨k, q1, r11, nn1, hk, hI, rfl, rfl, rfl⟩ := hrel
            obtain ⟨f1a, f1b, f1c, hd, he⟩ := id hI
            have qr := Dv.ov_room _ _ _ _ _ _ hI (by omega) (by omega) hk
            have pk := Dv.pow_pos k
            have HI := Lib.hid hI
            clear hd he hI
            by_cases hk0 : 1 ≤ k
            · obtain ⟨j, rfl⟩ : ∃ j, k = j + 1 := ⟨k - 1, by omega⟩
              have ej : (((j + 1 : Nat) : Int) - 1) = (j : Int) := by omega
              rw [ej]
              clear ej hk0
              have eB := Dv.ov_bit r11 (dg1 m) j (by omega) (by omega) (by omega) (by omega)
              have e0 : 0 ≤ dg1 m / 2 ^ j % 2 := by omega
              have e1 : dg1 m / 2 ^ j % 2 < 2 := by omega
              by_cases hn : n ≤ r11 * 2 + dg1 m / 2 ^ j % 2
              · have hx := Dv.ov_take _ _ _ _ _ _ HI.out hn
                have qs := Dv.ov_set q1 j f1a HI.out.2.2.2.1 (by omega)
                have HX := Lib.hid hx
                clear hx
                go_wp2
                go_region
                go_wp2
                exact ⟨⟨j, _, _, _, by omega, HX.out, rfl, rfl, rfl⟩, by simp [intOf] <;> omega⟩
              · have hx := Dv.ov_keep _ _ _ _ _ _ HI.out (by omega)
                have HX := Lib.hid hx
                clear hx
                go_wp2
                exact ⟨⟨j, q1, _, nn1, by omega, HX.out, rfl, rfl, rfl⟩, by simp [intOf] <;> omega⟩
            · obtain rfl : k = 0 := by omega
              obtain ⟨eq1, er1⟩ := Dv.ov_end _ _ _ _ _ HI.out
              have EQ1 := Lib.hid eq1; have ER1 := Lib.hid er1
              clear eq1 er1 HI hk0 hk pk
              have f1d : q1 < 4294967296 := by omega
              clear qr
              go_wp2
              rw [rounds_succ]
              go_wp2
              go_loopw [7, 9] (fun r b wr => ∃ (k : Nat) (q r1 : Int) (nn : Nat), k ≤ 32 ∧ Dv.ovI r11 (dg0 m) n k q r1 ∧ b = .int .i64 ((k : Int) - 1) ∧ r = .int .u64 r1 ∧ wr = (((w.alloc (.cells #[.int .u64 (dg0 m), .int .u64 (dg1 m), .int .u64 (dg2 m), .int .u64 (dg3 m)] 138)).alloc (.cells #[.int .u64 0, .int .u64 0, .int .u64 0, .int .u64 0] 138)).alloc (.cells #[.int .u64 q, .int .u64 q1, .int .u64 q2, .int .u64 q3] 138)).drewN nn) (fun _ b _ => (intOf b + 1).toNat)
              case atStart => exact ⟨32, 0, r11, nn1, by omega, Dv.ov_start _ _ _ (by omega) (by omega) (by omega) (by omega), rfl, rfl, rfl⟩
              case round =>
                obtain ⟨k, q0, r10, nn0, hk, hI, rfl, rfl, rfl⟩ := hrel
                obtain ⟨f0a, f0b, f0c, hd, he⟩ := id hI
                have qr := Dv.ov_room _ _ _ _ _ _ hI (by omega) (by omega) hk
                have pk := Dv.pow_pos k
                have HI := Lib.hid hI
                clear hd he hI
                by_cases hk0 : 1 ≤ k
                · obtain ⟨j, rfl⟩ : ∃ j, k = j + 1 := ⟨k - 1, by omega⟩
                  have ej : (((j + 1 : Nat) : Int) - 1) = (j : Int) := by omega
                  rw [ej]
                  clear ej hk0
                  have eB := Dv.ov_bit r10 (dg0 m) j (by omega) (by omega) (by omega) (by omega)
                  have e0 : 0 ≤ dg0 m / 2 ^ j % 2 := by omega
                  have e1 : dg0 m / 2 ^ j % 2 < 2 := by omega
                  by_cases hn : n ≤ r10 * 2 + dg0 m / 2 ^ j % 2
                  · have hx := Dv.ov_take _ _ _ _ _ _ HI.out hn
                    have qs := Dv.ov_set q0 j f0a HI.out.2.2.2.1 (by omega)
                    have HX := Lib.hid hx
                    clear hx
                    go_wp2
                    go_region
                    go_wp2
                    exact ⟨⟨j, _, _, _, by omega, HX.out, rfl, rfl, rfl⟩, by simp [intOf] <;> omega⟩
                  · have hx := Dv.ov_keep _ _ _ _ _ _ HI.out (by omega)
                    have HX := Lib.hid hx
                    clear hx
                    go_wp2
                    exact ⟨⟨j, q0, _, nn0, by omega, HX.out, rfl, rfl, rfl⟩, by simp [intOf] <;> omega⟩
                · obtain rfl : k = 0 := by omega
                  obtain ⟨eq0, er0⟩ := Dv.ov_end _ _ _ _ _ HI.out
                  have EQ0 := Lib.hid eq0; have ER0 := Lib.hid er0
                  clear eq0 er0 HI hk0 hk pk
                  have f0d : q0 < 4294967296 := by omega
                  clear qr
                  go_wp2
                  rw [rounds_succ]
                  go_wp2
                  refine bodyPost_ret (by simp [results, Try.results101, go_sem, ext_ext, ext_cell]; try rfl) rfl ?_
                  refine ⟨?_, by (repeat (first | with_reducible exact b0 _ | (with_reducible refine bext ?_ _ _) | (with_reducible refine below_drewN ?_ _) | (with_reducible refine Below.drew ?_) | (with_reducible refine bal ?_ _)))⟩
                  have sm := dg_sum m h0 h1
                  have d := Dv.over_digits (dg0 m) (dg1 m) (dg2 m) (dg3 m) n q0 q1 q2 q3 r10 r11 r12 r13 n0 EQ3.out ER3.out EQ2.out ER2.out EQ1.out ER1.out EQ0.out ER0.out
                  rw [show dg0 m + dg1 m * 4294967296 + dg2 m * 18446744073709551616 + dg3 m * 79228162514264337593543950336 = m from sm.symm] at d
                  have g := dg_of (m / n) q0 q1 q2 q3 f0a f0d f1a f1d f2a f2d f3a f3d d.1
                  rw [d.2, g.1, g.2.1, g.2.2.1, g.2.2.2]
end Go.Proofs.Ytmjbeplcabomdaa
