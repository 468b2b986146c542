/-
  Windows: the code's and the reference's checks.
-/
import Derived.Test.YtcigjdadahlgnaaRows
import Derived.WalkKit
import Derived.WalkSpells
import Derived.WalkLawsBesides
import Derived.Lib.Hide
import Derived.Handy
import Derived.Deep.QuietTactic
import Derived.Deep.LoopGhost
import Derived.BigQuiet
import Derived.Deep.RegionHeld3
import Derived.Test.YtcigjdadahlgnaaRa
namespace Go.Proofs.Ytcigjdadahlgnaa
open Go.RowKit
set_option linter.unusedVariables false
set_option linter.unusedSimpArgs false

theorem wrap_nat {j : Nat} (h : j ≤ 1000000) : IntKind.i64.wrap ((j : Nat) : Int) = ((j : Nat) : Int) := by
  simp [IntKind.wrap, IntKind.bits, IntKind.signed]
  omega
set_option maxRecDepth 100000 in
set_option maxHeartbeats 1600000 in
theorem rise_Check (s : Option Addr) (n cap g o : Nat) (L : List Win) (hn : n ≤ 1000000) (w : World) (hs : slW w s n g o L) :
    Calls Try.prog 9 #[.slice s n cap] w fun e w' => e = .returned (.int .i64 (wcE L)) ∧ Below w.heap.size w w' := by
  have hL : n = L.length := hs.1
  by_cases h1 : 1000 < n
  · have z1 : ((1000 : Int) < (n : Int)) = True := by simp; omega
    have hr : wcE L = 4 := by unfold wcE; rw [if_pos (by omega)]
    rw [hr]
    clear hr hs hL h1
    go_enter Try.func9, Try.ntmps9
    go_wp2
    go_ret
    exact ⟨rfl, b0 _⟩
  have z1 : ((1000 : Int) < (n : Int)) = False := by simp; omega
  have hr : wcE L = if okW L = true then 0 else 8 := by unfold wcE; rw [if_neg (by omega)]
  have HX := Lib.hid (show ∀ k, k < n → ¬ (fW L k < tW L k ∧ (0 < k → tW L (k - 1) < fW L k)) → okW L = false from fun k hk h => okW_bad (by omega) h)
  have HY := Lib.hid (show (∀ k, k < n → fW L k < tW L k ∧ (0 < k → tW L (k - 1) < fW L k)) → okW L = true from fun h => okW_all (by rw [← hL]; exact h))
  have HS := Lib.hid hs
  have HR := Lib.hid hr
  have HN := Lib.hid hn
  clear hs hr hL h1 hn
  generalize wcE L = R at *
  generalize okW L = K at *
  go_enter Try.func9, Try.ntmps9
  go_wp2_with fail
  go_loopg [10] n (fun kk s10 wr => ∃ i : Nat, kk = n - i ∧ s10 = .int .i64 i ∧ i ≤ n ∧ (∀ k, k < i → fW L k < tW L k ∧ (0 < k → tW L (k - 1) < fW L k)) ∧ Below w.heap.size w wr)
  case atStart =>
    exact ⟨0, by omega, rfl, by omega, fun j h => absurd h (by omega), b0 _⟩
  case round =>
    obtain ⟨i, rfl, rfl, him, hG, hbr⟩ := hrel
    have HD := Lib.hid hG
    clear hG
    by_cases hi : i < n
    · obtain ⟨-, q2, q3⟩ := slW_up HS.out hbr
      obtain ⟨rfl, hg⟩ := q2 (by omega)
      obtain ⟨e0, e1⟩ := q3 i hi
      have zi : ((i : Int) < (n : Int)) = True := by simp; omega
      have HI := Lib.hid hi
      obtain ⟨a, ha⟩ : ∃ a, fW L i = a := ⟨_, rfl⟩
      obtain ⟨b, hb⟩ : ∃ b, tW L i = b := ⟨_, rfl⟩
      rw [ha] at e0
      rw [hb] at e1
      have HA := Lib.hid (And.intro ha hb)
      have i40 : i ≤ 1000000 := by have := HN.out; omega
      by_cases h2 : b ≤ a
      · have g1 : (b ≤ a) = True := eq_true h2
        have HH := Lib.hid (HX.out i hi (by rw [ha, hb]; omega))
        clear h2 ha hb q3 q2 hi him HD
        go_wp2_with fail
        go_quiet (fail)
        go_wp2
        go_ret
        exact ⟨ret_s1 (by rw [HR.out, HH.out]; rfl), by first | exact hbr | exact below_drewN hbr _ | (repeat (first | with_reducible exact hbr | (with_reducible refine bext ?_ _ _) | (with_reducible refine below_drewN ?_ _) | (with_reducible refine Below.drew ?_) | (with_reducible refine bal ?_ _) | (with_reducible refine bset ?_ (by first | omega | (simp <;> omega)) _)))⟩
      have g1 : (b ≤ a) = False := eq_false h2
      have HC := Lib.hid h2
      clear h2
      by_cases hz : i = 0
      · subst hz
        rw [Nat.zero_mul, Nat.add_zero] at e0 e1
        clear ha hb q3 q2 hi him
        go_wp2_with fail
        go_quiet (fail)
        go_wp2
        go_roundg (n - (0 + 1))
        case measure => have := HI.out; omega
        case rel =>
          refine ⟨1, rfl, by go_num, by have := HI.out; omega, ?_, by first | exact hbr | exact below_drewN hbr _ | (repeat (first | with_reducible exact hbr | (with_reducible refine bext ?_ _ _) | (with_reducible refine below_drewN ?_ _) | (with_reducible refine Below.drew ?_) | (with_reducible refine bal ?_ _) | (with_reducible refine bset ?_ (by first | omega | (simp <;> omega)) _)))⟩
          intro k hk
          have hk0 : k = 0 := by omega
          subst hk0
          have := HC.out
          rw [HA.out.1, HA.out.2]
          exact ⟨by omega, fun h => by omega⟩
      obtain ⟨j, rfl⟩ : ∃ j, i = j + 1 := ⟨i - 1, by omega⟩
      obtain ⟨e2, e3⟩ := q3 j (by omega)
      clear zi
      have zi : ((j : Int) + 1 < (n : Int)) = True := by simp; omega
      have zj : ((j : Int) < (n : Int)) = True := by simp; omega
      have zk : (j < n) = True := by simp; omega
      have zw : IntKind.i64.wrap ((j : Nat) : Int) = ((j : Nat) : Int) := wrap_nat (by omega)
      obtain ⟨p, hp⟩ : ∃ p, tW L j = p := ⟨_, rfl⟩
      rw [hp] at e3
      have HP := Lib.hid hp
      by_cases h3 : a ≤ p
      · have g3 : (a ≤ p) = True := eq_true h3
        have HH := Lib.hid (HX.out (j + 1) hi (by rw [ha, hb, show j + 1 - 1 = j by omega, hp]; omega))
        clear h3 ha hb hp q3 q2 hi him HD hz
        go_wp2_with fail
        go_quiet (fail)
        go_wp2
        go_ret
        exact ⟨ret_s1 (by rw [HR.out, HH.out]; rfl), by first | exact hbr | exact below_drewN hbr _ | (repeat (first | with_reducible exact hbr | (with_reducible refine bext ?_ _ _) | (with_reducible refine below_drewN ?_ _) | (with_reducible refine Below.drew ?_) | (with_reducible refine bal ?_ _) | (with_reducible refine bset ?_ (by first | omega | (simp <;> omega)) _)))⟩
      · have g3 : (a ≤ p) = False := eq_false h3
        have HE := Lib.hid h3
        clear h3 ha hb hp q3 q2 hi him hz
        go_wp2_with fail
        go_quiet (fail)
        go_wp2
        go_roundg (n - (j + 1 + 1))
        case measure => have := HI.out; omega
        case rel =>
          refine ⟨j + 1 + 1, rfl, by go_num, by have := HI.out; omega, ?_, by first | exact hbr | exact below_drewN hbr _ | (repeat (first | with_reducible exact hbr | (with_reducible refine bext ?_ _ _) | (with_reducible refine below_drewN ?_ _) | (with_reducible refine Below.drew ?_) | (with_reducible refine bal ?_ _) | (with_reducible refine bset ?_ (by first | omega | (simp <;> omega)) _)))⟩
          intro k hk
          by_cases e : k = j + 1
          · subst e
            have h4 := HC.out
            have h5 := HE.out
            rw [HA.out.1, HA.out.2, show j + 1 - 1 = j by omega, HP.out]
            exact ⟨by omega, fun _ => by omega⟩
          · exact HD.out k (by omega)
    · have zi : ((i : Int) < (n : Int)) = False := by simp; omega
      have HH := Lib.hid (HY.out (fun k hk => HD.out k (by omega)))
      clear HD hi
      go_wp2
      go_ret
      exact ⟨ret_s1 (by rw [HR.out, HH.out]; rfl), by (repeat (first | with_reducible exact hbr | (with_reducible refine bext ?_ _ _) | (with_reducible refine below_drewN ?_ _) | (with_reducible refine Below.drew ?_) | (with_reducible refine bal ?_ _) | (with_reducible refine bset ?_ (by first | omega | (simp <;> omega)) _)))⟩
set_option maxRecDepth 100000 in
set_option maxHeartbeats 1600000 in
theorem ref7_Check (s : Option Addr) (n cap g o : Nat) (L : List Win) (hn : n ≤ 1000000) (w : World) (hs : slW w s n g o L) :
    Calls Try.prog 10 #[.slice s n cap] w fun e w' => e = .returned (.int .i64 (wcE L)) ∧ Below w.heap.size w w' := by
  have hL : n = L.length := hs.1
  by_cases h1 : 1000 < n
  · have z1 : ((1000 : Int) < (n : Int)) = True := by simp; omega
    have hr : wcE L = 4 := by unfold wcE; rw [if_pos (by omega)]
    rw [hr]
    clear hr hs hL h1
    go_enter Try.func10, Try.ntmps10
    go_wp2
    go_ret
    exact ⟨rfl, b0 _⟩
  have z1 : ((1000 : Int) < (n : Int)) = False := by simp; omega
  have hr : wcE L = if okW L = true then 0 else 8 := by unfold wcE; rw [if_neg (by omega)]
  have HX := Lib.hid (show ∀ k, k < n → ¬ (fW L k < tW L k ∧ (0 < k → tW L (k - 1) < fW L k)) → okW L = false from fun k hk h => okW_bad (by omega) h)
  have HY := Lib.hid (show (∀ k, k < n → fW L k < tW L k ∧ (0 < k → tW L (k - 1) < fW L k)) → okW L = true from fun h => okW_all (by rw [← hL]; exact h))
  have HS := Lib.hid hs
  have HR := Lib.hid hr
  have HN := Lib.hid hn
  clear hs hr hL h1 hn
  generalize wcE L = R at *
  generalize okW L = K at *
  go_enter Try.func10, Try.ntmps10
  go_wp2_with fail
  go_loopg [3] n (fun kk s3 wr => ∃ i : Nat, kk = n - i ∧ s3 = .int .i64 i ∧ i ≤ n ∧ (∀ k, k < i → fW L k < tW L k ∧ (0 < k → tW L (k - 1) < fW L k)) ∧ Below w.heap.size w wr)
  case atStart =>
    exact ⟨0, by omega, rfl, by omega, fun j h => absurd h (by omega), b0 _⟩
  case round =>
    obtain ⟨i, rfl, rfl, him, hG, hbr⟩ := hrel
    have HD := Lib.hid hG
    clear hG
    by_cases hi : i < n
    · obtain ⟨-, q2, q3⟩ := slW_up HS.out hbr
      obtain ⟨rfl, hg⟩ := q2 (by omega)
      obtain ⟨e0, e1⟩ := q3 i hi
      have zi : ((i : Int) < (n : Int)) = True := by simp; omega
      have HI := Lib.hid hi
      obtain ⟨a, ha⟩ : ∃ a, fW L i = a := ⟨_, rfl⟩
      obtain ⟨b, hb⟩ : ∃ b, tW L i = b := ⟨_, rfl⟩
      rw [ha] at e0
      rw [hb] at e1
      have HA := Lib.hid (And.intro ha hb)
      have i40 : i ≤ 1000000 := by have := HN.out; omega
      by_cases h2 : b ≤ a
      · have g1 : (b ≤ a) = True := eq_true h2
        have HH := Lib.hid (HX.out i hi (by rw [ha, hb]; omega))
        clear h2 ha hb q3 q2 hi him HD
        go_wp2_with fail
        go_quiet (fail)
        go_wp2
        go_ret
        exact ⟨ret_s1 (by rw [HR.out, HH.out]; rfl), by first | exact hbr | exact below_drewN hbr _ | (repeat (first | with_reducible exact hbr | (with_reducible refine bext ?_ _ _) | (with_reducible refine below_drewN ?_ _) | (with_reducible refine Below.drew ?_) | (with_reducible refine bal ?_ _) | (with_reducible refine bset ?_ (by first | omega | (simp <;> omega)) _)))⟩
      have g1 : (b ≤ a) = False := eq_false h2
      have HC := Lib.hid h2
      clear h2
      by_cases hz : i = 0
      · subst hz
        rw [Nat.zero_mul, Nat.add_zero] at e0 e1
        clear ha hb q3 q2 hi him
        go_wp2_with fail
        go_quiet (fail)
        go_wp2
        go_roundg (n - (0 + 1))
        case measure => have := HI.out; omega
        case rel =>
          refine ⟨1, rfl, by go_num, by have := HI.out; omega, ?_, by first | exact hbr | exact below_drewN hbr _ | (repeat (first | with_reducible exact hbr | (with_reducible refine bext ?_ _ _) | (with_reducible refine below_drewN ?_ _) | (with_reducible refine Below.drew ?_) | (with_reducible refine bal ?_ _) | (with_reducible refine bset ?_ (by first | omega | (simp <;> omega)) _)))⟩
          intro k hk
          have hk0 : k = 0 := by omega
          subst hk0
          have := HC.out
          rw [HA.out.1, HA.out.2]
          exact ⟨by omega, fun h => by omega⟩
      obtain ⟨j, rfl⟩ : ∃ j, i = j + 1 := ⟨i - 1, by omega⟩
      obtain ⟨e2, e3⟩ := q3 j (by omega)
      clear zi
      have zi : ((j : Int) + 1 < (n : Int)) = True := by simp; omega
      have zj : ((j : Int) < (n : Int)) = True := by simp; omega
      have zk : (j < n) = True := by simp; omega
      have zw : IntKind.i64.wrap ((j : Nat) : Int) = ((j : Nat) : Int) := wrap_nat (by omega)
      obtain ⟨p, hp⟩ : ∃ p, tW L j = p := ⟨_, rfl⟩
      rw [hp] at e3
      have HP := Lib.hid hp
      by_cases h3 : a ≤ p
      · have g3 : (a ≤ p) = True := eq_true h3
        have HH := Lib.hid (HX.out (j + 1) hi (by rw [ha, hb, show j + 1 - 1 = j by omega, hp]; omega))
        clear h3 ha hb hp q3 q2 hi him HD hz
        go_wp2_with fail
        go_quiet (fail)
        go_wp2
        go_ret
        exact ⟨ret_s1 (by rw [HR.out, HH.out]; rfl), by first | exact hbr | exact below_drewN hbr _ | (repeat (first | with_reducible exact hbr | (with_reducible refine bext ?_ _ _) | (with_reducible refine below_drewN ?_ _) | (with_reducible refine Below.drew ?_) | (with_reducible refine bal ?_ _) | (with_reducible refine bset ?_ (by first | omega | (simp <;> omega)) _)))⟩
      · have g3 : (a ≤ p) = False := eq_false h3
        have HE := Lib.hid h3
        clear h3 ha hb hp q3 q2 hi him hz
        go_wp2_with fail
        go_quiet (fail)
        go_wp2
        go_roundg (n - (j + 1 + 1))
        case measure => have := HI.out; omega
        case rel =>
          refine ⟨j + 1 + 1, rfl, by go_num, by have := HI.out; omega, ?_, by first | exact hbr | exact below_drewN hbr _ | (repeat (first | with_reducible exact hbr | (with_reducible refine bext ?_ _ _) | (with_reducible refine below_drewN ?_ _) | (with_reducible refine Below.drew ?_) | (with_reducible refine bal ?_ _) | (with_reducible refine bset ?_ (by first | omega | (simp <;> omega)) _)))⟩
          intro k hk
          by_cases e : k = j + 1
          · subst e
            have h4 := HC.out
            have h5 := HE.out
            rw [HA.out.1, HA.out.2, show j + 1 - 1 = j by omega, HP.out]
            exact ⟨by omega, fun _ => by omega⟩
          · exact HD.out k (by omega)
    · have zi : ((i : Int) < (n : Int)) = False := by simp; omega
      have HH := Lib.hid (HY.out (fun k hk => HD.out k (by omega)))
      clear HD hi
      go_wp2
      go_ret
      exact ⟨ret_s1 (by rw [HR.out, HH.out]; rfl), by (repeat (first | with_reducible exact hbr | (with_reducible refine bext ?_ _ _) | (with_reducible refine below_drewN ?_ _) | (with_reducible refine Below.drew ?_) | (with_reducible refine bal ?_ _) | (with_reducible refine bset ?_ (by first | omega | (simp <;> omega)) _)))⟩
end Go.Proofs.Ytcigjdadahlgnaa
