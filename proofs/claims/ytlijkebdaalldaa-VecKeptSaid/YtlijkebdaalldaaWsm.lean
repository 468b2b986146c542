/-
  Small vectors and parameters: what the law's small reports.
-/
import Derived.Lib.Hide
import Derived.Test.YtlijkebdaalldaaKu
import Derived.Test.YtlijkebdaalldaaMA
import Derived.Deep.LoopGhost
namespace Go.Proofs.Ytlijkebdaalldaa
open Go.RowKit
set_option linter.unusedVariables false
set_option linter.unusedSimpArgs false

/-- A fraction is valid and small; seven are. -/
def smF (n d : Int) : Prop := okF n d = true ∧ n ≤ 1000 ∧ -1000 ≤ n ∧ d ≤ 20
def smL (L : Nat → Int) : Prop := ∀ i, i < 7 → smF (L (i * 2)) (L (i * 2 + 1))
instance (n d : Int) : Decidable (smF n d) := by unfold smF; infer_instance
instance (L : Nat → Int) : Decidable (smL L) := by unfold smL; infer_instance
theorem arr14 (L : Nat → Int) : ∀ o, o < 14 → (#[Value.int .i64 (L 0), Value.int .i64 (L 1), Value.int .i64 (L 2), Value.int .i64 (L 3), Value.int .i64 (L 4), Value.int .i64 (L 5), Value.int .i64 (L 6), Value.int .i64 (L 7), Value.int .i64 (L 8), Value.int .i64 (L 9), Value.int .i64 (L 10), Value.int .i64 (L 11), Value.int .i64 (L 12), Value.int .i64 (L 13)] : Array Value)[o]? = some (.int .i64 (L o)) := by
  intro o ho
  rcases (show o = 0 ∨ o = 1 ∨ o = 2 ∨ o = 3 ∨ o = 4 ∨ o = 5 ∨ o = 6 ∨ o = 7 ∨ o = 8 ∨ o = 9 ∨ o = 10 ∨ o = 11 ∨ o = 12 ∨ o = 13 by omega) with rfl | rfl | rfl | rfl | rfl | rfl | rfl | rfl | rfl | rfl | rfl | rfl | rfl | rfl <;> rfl
set_option maxRecDepth 100000 in
set_option maxHeartbeats 3200000 in
theorem law_small (L : Nat → Int) (CK : ∀ i, i < 7 → ∀ w : World, Calls Try.prog 59 #[.agg #[.int .i64 (L (i * 2)), .int .i64 (L (i * 2 + 1))]] w fun x w' => x = .returned (.int .i64 (if okF (L (i * 2)) (L (i * 2 + 1)) = true then 0 else 8)) ∧ Below w.heap.size w w') (w : World) :
    Calls Try.prog 29 #[.agg #[.int .i64 (L 0), .int .i64 (L 1), .int .i64 (L 2), .int .i64 (L 3), .int .i64 (L 4), .int .i64 (L 5)], .agg #[.int .i64 (L 6), .int .i64 (L 7), .int .i64 (L 8), .int .i64 (L 9), .int .i64 (L 10), .int .i64 (L 11)], .agg #[.int .i64 (L 12), .int .i64 (L 13)]] w fun x w' => x = .returned (.bool (decide (smL L))) ∧ Below w.heap.size w w' := by
  have HC := Lib.hid CK
  clear CK
  have xR := xRul
  go_enter Try.func29, Try.ntmps29
  go_upto_region 2 with fail
  refine opq (fun wx => Cs wx (w.heap.size + 1 + 1 + 1) 14 L ∧ w.heap.size + 1 + 1 + 1 < wx.heap.size ∧ Below w.heap.size w wx) ?_ ?_
  · exact ⟨cs_new (by simp) (arr14 L), by simp, kb⟩
  generalize hg : w.heap.size + 1 + 1 + 1 = g at *
  have zw : w.heap.size < g := by omega
  clear hg
  rintro w0 ⟨cL, zs, HBa⟩
  go_wp2_with fail
  go_loopg [8] 7 (fun kk s8 wr => ∃ i : Nat, kk = 7 - i ∧ s8 = .int .i64 i ∧ i ≤ 7 ∧ (∀ j, j < i → smF (L (j * 2)) (L (j * 2 + 1))) ∧ Cs wr g 14 L ∧ g < wr.heap.size ∧ Below w.heap.size w wr)
  case atStart => exact ⟨0, rfl, rfl, by omega, fun j hj => by omega, cL, zs, HBa⟩
  case round =>
    obtain ⟨i, rfl, rfl, hi7, hok, cR, zr, hbr⟩ := hrel
    have OK := Lib.hid hok
    clear hok cL zs HBa
    by_cases hi : i < 7
    · have e0 := cR (i * 2) (by omega)
      have e1 := cR (i * 2 + 1) (by omega)
      have zi : (i : Int) < 7 := by omega
      have A0 := HC.out i hi
      have R0 : Hid (smF (L (i * 2)) (L (i * 2 + 1)) → ∀ j, j < i + 1 → smF (L (j * 2)) (L (j * 2 + 1))) := Lib.hid (fun h j hj => by
        rcases Nat.lt_or_ge j i with q | q
        · exact OK.out j q
        · rw [show j = i by omega]; exact h)
      have R8 : Hid (¬ smF (L (i * 2)) (L (i * 2 + 1)) → decide (smL L) = false) := Lib.hid (fun h => decide_eq_false (fun k => h (k i hi)))
      have CR := Lib.hid cR
      clear cR HC OK
      unfold smF at R8
      have S8 : Hid (smF (L (i * 2)) (L (i * 2 + 1)) ↔ (okF (L (i * 2)) (L (i * 2 + 1)) = true ∧ L (i * 2) ≤ 1000 ∧ -1000 ≤ L (i * 2) ∧ L (i * 2 + 1) ≤ 20)) := Lib.hid Iff.rfl
      generalize L (i * 2) = c0 at *
      generalize L (i * 2 + 1) = c1 at *
      by_cases h0 : okF c0 c1 = true
      · rw [if_pos h0] at A0
        by_cases h1 : 1000 < c0
        · have E8 := Lib.hid (R8.out (fun k => by omega))
          have f1 : (1000 < c0) = True := eq_true h1
          clear R0 R8 S8 h0 h1 hi
          go_wp2_with fail
          with_reducible refine (A0 _).mono ?_
          rintro e v0 ⟨rfl, hb⟩
          obtain ⟨l0, d0, rfl⟩ := toExt hb
          clear hb
          go_wp2
          go_ret
          exact ⟨by rw [E8.out]; rfl, kb⟩
        · have f1 : (1000 < c0) = False := eq_false h1
          by_cases h2 : c0 < -1000
          · have E8 := Lib.hid (R8.out (fun k => by omega))
            have f2 : (c0 < -1000) = True := eq_true h2
            clear R0 R8 S8 h0 h1 h2 hi
            go_wp2_with fail
            with_reducible refine (A0 _).mono ?_
            rintro e v0 ⟨rfl, hb⟩
            obtain ⟨l0, d0, rfl⟩ := toExt hb
            clear hb
            go_wp2
            go_ret
            exact ⟨by rw [E8.out]; rfl, kb⟩
          · have f2 : (c0 < -1000) = False := eq_false h2
            by_cases h3 : 20 < c1
            · have E8 := Lib.hid (R8.out (fun k => by omega))
              have f3 : (20 < c1) = True := eq_true h3
              clear R0 R8 S8 h0 h1 h2 h3 hi
              go_wp2_with fail
              with_reducible refine (A0 _).mono ?_
              rintro e v0 ⟨rfl, hb⟩
              obtain ⟨l0, d0, rfl⟩ := toExt hb
              clear hb
              go_wp2
              go_ret
              exact ⟨by rw [E8.out]; rfl, kb⟩
            · have f3 : (20 < c1) = False := eq_false h3
              have RR := Lib.hid (R0.out (S8.out.2 ⟨h0, by omega, by omega, by omega⟩))
              clear R0 R8 S8 h0 h1 h2 h3 hi
              go_wp2_with fail
              with_reducible refine (A0 _).mono ?_
              rintro e v0 ⟨rfl, hb⟩
              obtain ⟨l0, d0, rfl⟩ := toExt hb
              clear hb
              go_wp2
              go_roundg (7 - (i + 1))
              case measure => omega
              case rel => exact ⟨i + 1, by omega, by go_num, by omega, RR.out, by (with_reducible repeat (first | exact CR.out | refine cs_drewN ?_ | refine cs_drew ?_ | refine cs_exa ?_ _ _ | refine cs_ala _ ?_ | refine cs_upa ?_ | refine cs_sea _ ?_)), by (first | omega | (simp [ext_size, World.setCell] <;> omega)), kb⟩
      · rw [if_neg h0] at A0
        have E8 := Lib.hid (R8.out (fun k => h0 k.1))
        clear R0 R8 S8 h0 hi
        go_wp2_with fail
        with_reducible refine (A0 _).mono ?_
        rintro e v0 ⟨rfl, hb⟩
        obtain ⟨l0, d0, rfl⟩ := toExt hb
        clear hb
        go_wp2
        go_ret
        exact ⟨by rw [E8.out]; rfl, kb⟩
    · have zi : ¬ (i : Int) < 7 := by omega
      have E0 : Hid (decide (smL L) = true) := Lib.hid (decide_eq_true (fun j hj => OK.out j (by omega)))
      clear OK HC cR
      go_wp2
      go_ret
      exact ⟨by rw [E0.out]; rfl, kb⟩
end Go.Proofs.Ytlijkebdaalldaa
