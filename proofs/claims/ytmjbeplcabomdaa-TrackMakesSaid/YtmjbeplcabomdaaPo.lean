/-
  Names: the reference's check of a string.
-/
import Derived.Test.YtmjbeplcabomdaaPn
namespace Go.Proofs.Ytmjbeplcabomdaa
open Go.RowKit
set_option linter.unusedVariables false
set_option linter.unusedSimpArgs false

set_option maxRecDepth 100000 in
set_option maxHeartbeats 1600000 in
theorem ref4_Named (s : ByteArray) (w : World) :
    Calls Try.prog 40 #[.string s] w fun e w' => e = .returned (.bool (nameB s)) ∧ Below w.heap.size w w' := by
  by_cases h0 : s.size < 1
  · have z0 : ((s.size : Int) < 1) = True := by simp; omega
    have HH := Lib.hid (show nameB s = false by unfold nameB; exact decide_eq_false (by omega))
    clear h0
    go_enter Try.func40, Try.ntmps40
    go_wp2
    go_ret
    exact ⟨ret_sb HH.out.symm, b0 _⟩
  have z0 : ((s.size : Int) < 1) = False := by simp; omega
  by_cases h1 : 40 < s.size
  · have z1 : ((40 : Int) < (s.size : Int)) = True := by simp; omega
    have HH := Lib.hid (show nameB s = false by unfold nameB; exact decide_eq_false (by omega))
    clear h0 h1
    go_enter Try.func40, Try.ntmps40
    go_wp2
    go_ret
    exact ⟨ret_sb HH.out.symm, b0 _⟩
  have z1 : ((40 : Int) < (s.size : Int)) = False := by simp; omega
  have hX : ∀ k, k < s.size → ¬ goodC s k → nameB s = false := fun k h1 h2 => name_no h1 h2
  have s0 : ∀ h : 0 < s.size, (s[0]'h).toNat = chN s 0 := fun h => ch_at s 0 h
  obtain ⟨c, hc⟩ : ∃ c, chN s 0 = c := ⟨_, rfl⟩
  rw [hc] at s0
  have zp : (0 : Int) < (s.size : Int) := by omega
  by_cases hl : c < 97
  · have g1 : ((c : Int) < 97) = True := by simp; omega
    have HH := Lib.hid (hX 0 (by omega) (by unfold goodC; omega))
    clear h0 h1 hX hl hc
    go_enter Try.func40, Try.ntmps40
    go_wp2
    go_ret
    exact ⟨ret_sb HH.out.symm, b0 _⟩
  have g1 : ((c : Int) < 97) = False := by simp; omega
  by_cases hu : 122 < c
  · have g2 : ((122 : Int) < (c : Int)) = True := by simp; omega
    have HH := Lib.hid (hX 0 (by omega) (by unfold goodC; omega))
    clear h0 h1 hX hl hu hc
    go_enter Try.func40, Try.ntmps40
    go_wp2
    go_ret
    exact ⟨ret_sb HH.out.symm, b0 _⟩
  have g2 : ((122 : Int) < (c : Int)) = False := by simp; omega
  have hN : nameB s = decide (∀ k, k < s.size → goodC s k) := by
    unfold nameB
    rw [decide_eq_decide]
    exact ⟨fun h => h.2.2, fun h => ⟨by omega, by omega, h⟩⟩
  have h00 : 97 ≤ chN s 0 ∧ chN s 0 ≤ 122 := by omega
  have HN := Lib.hid hN
  have HX := Lib.hid hX
  have H0 := Lib.hid h00
  have hsz : s.size ≤ 40 := by omega
  clear hN hX h0 h1 hl hu hc h00
  go_enter Try.func40, Try.ntmps40
  go_wp2
  clear g1 g2 s0 zp
  go_loopg [3] s.size (fun kk s3 wr => ∃ i : Nat, kk = s.size - i ∧ s3 = .int .i64 i ∧ i ≤ s.size ∧ (∀ j, j < i → goodC s j) ∧ Below w.heap.size w wr)
  case atStart => exact ⟨0, by omega, rfl, by omega, fun j h => absurd h (by omega), b0 _⟩
  case round =>
    obtain ⟨i, rfl, rfl, him, hG, hbr⟩ := hrel
    by_cases hi : i < s.size
    · have zi : ((i : Int) < (s.size : Int)) = True := by simp; omega
      have zj : (i : Int) < (s.size : Int) := by omega
      have hch : ∀ h : i < s.size, (s[i]'h).toNat = chN s i := fun h => ch_at s i h
      have hgood : ∀ c : Nat, chN s i = c → ((97 ≤ c ∧ c ≤ 122) ∨ (48 ≤ c ∧ c ≤ 57) ∨ c = 45) → goodC s i := by
        intro c h1 h2
        have := H0.out
        unfold goodC
        by_cases e : i = 0
        · left; subst e; exact this
        · rw [h1]; omega
      have hbad : ∀ c : Nat, chN s i = c → ¬ ((97 ≤ c ∧ c ≤ 122) ∨ (48 ≤ c ∧ c ≤ 57) ∨ c = 45) → nameB s = false := by
        intro c h1 h2; exact HX.out i hi (by unfold goodC; rw [h1]; omega)
      have HG := Lib.hid hgood
      have HB := Lib.hid hbad
      have HD := Lib.hid hG
      have HI := Lib.hid hi
      obtain ⟨c, hc⟩ : ∃ c, chN s i = c := ⟨_, rfl⟩
      have HCc := Lib.hid hc
      rw [hc] at hch
      clear hgood hbad hG z1 z0 him hc
      rcases range_split c with h | h | h | h | h | h | h
      · have g1 : ((c : Int) < 97) = True := by simp; omega
        have g2 : ((122 : Int) < (c : Int)) = False := by simp; omega
        have g3 : ((c : Int) < 48) = True := by simp; omega
        have g4 : ((57 : Int) < (c : Int)) = False := by simp; omega
        have g5 : ((c : Int) == 45) = false := by simp; omega
        have HH := Lib.hid (HB.out c HCc.out (by omega))
        go_wp2
        go_ret
        exact ⟨ret_sb HH.out.symm, by (repeat (first | with_reducible exact hbr | (with_reducible refine bext ?_ _ _) | (with_reducible refine below_drewN ?_ _) | (with_reducible refine Below.drew ?_) | (with_reducible refine bal ?_ _) | (with_reducible refine bset ?_ (by first | omega | (simp <;> omega)) _)))⟩
      · have g1 : ((c : Int) < 97) = True := by simp; omega
        have g2 : ((122 : Int) < (c : Int)) = False := by simp; omega
        have g3 : ((c : Int) < 48) = True := by simp; omega
        have g4 : ((57 : Int) < (c : Int)) = False := by simp; omega
        have g5 : ((c : Int) == 45) = true := by simp; omega
        go_wp2
        go_roundg (s.size - (i + 1))
        case measure => have := HI.out; omega
        case rel =>
          have hI := HI.out
          refine ⟨i + 1, rfl, by go_num, by omega, ?_, by (repeat (first | with_reducible exact hbr | (with_reducible refine bext ?_ _ _) | (with_reducible refine below_drewN ?_ _) | (with_reducible refine Below.drew ?_) | (with_reducible refine bal ?_ _) | (with_reducible refine bset ?_ (by first | omega | (simp <;> omega)) _)))⟩
          intro j hj
          by_cases e : j = i
          · rw [e]; exact HG.out c HCc.out (by omega)
          · exact HD.out j (by omega)
      · have g1 : ((c : Int) < 97) = True := by simp; omega
        have g2 : ((122 : Int) < (c : Int)) = False := by simp; omega
        have g3 : ((c : Int) < 48) = True := by simp; omega
        have g4 : ((57 : Int) < (c : Int)) = False := by simp; omega
        have g5 : ((c : Int) == 45) = false := by simp; omega
        have HH := Lib.hid (HB.out c HCc.out (by omega))
        go_wp2
        go_ret
        exact ⟨ret_sb HH.out.symm, by (repeat (first | with_reducible exact hbr | (with_reducible refine bext ?_ _ _) | (with_reducible refine below_drewN ?_ _) | (with_reducible refine Below.drew ?_) | (with_reducible refine bal ?_ _) | (with_reducible refine bset ?_ (by first | omega | (simp <;> omega)) _)))⟩
      · have g1 : ((c : Int) < 97) = True := by simp; omega
        have g2 : ((122 : Int) < (c : Int)) = False := by simp; omega
        have g3 : ((c : Int) < 48) = False := by simp; omega
        have g4 : ((57 : Int) < (c : Int)) = False := by simp; omega
        have g5 : ((c : Int) == 45) = false := by simp; omega
        go_wp2
        go_roundg (s.size - (i + 1))
        case measure => have := HI.out; omega
        case rel =>
          have hI := HI.out
          refine ⟨i + 1, rfl, by go_num, by omega, ?_, by (repeat (first | with_reducible exact hbr | (with_reducible refine bext ?_ _ _) | (with_reducible refine below_drewN ?_ _) | (with_reducible refine Below.drew ?_) | (with_reducible refine bal ?_ _) | (with_reducible refine bset ?_ (by first | omega | (simp <;> omega)) _)))⟩
          intro j hj
          by_cases e : j = i
          · rw [e]; exact HG.out c HCc.out (by omega)
          · exact HD.out j (by omega)
      · have g1 : ((c : Int) < 97) = True := by simp; omega
        have g2 : ((122 : Int) < (c : Int)) = False := by simp; omega
        have g3 : ((c : Int) < 48) = False := by simp; omega
        have g4 : ((57 : Int) < (c : Int)) = True := by simp; omega
        have g5 : ((c : Int) == 45) = false := by simp; omega
        have HH := Lib.hid (HB.out c HCc.out (by omega))
        go_wp2
        go_ret
        exact ⟨ret_sb HH.out.symm, by (repeat (first | with_reducible exact hbr | (with_reducible refine bext ?_ _ _) | (with_reducible refine below_drewN ?_ _) | (with_reducible refine Below.drew ?_) | (with_reducible refine bal ?_ _) | (with_reducible refine bset ?_ (by first | omega | (simp <;> omega)) _)))⟩
      · have g1 : ((c : Int) < 97) = False := by simp; omega
        have g2 : ((122 : Int) < (c : Int)) = False := by simp; omega
        have g3 : ((c : Int) < 48) = False := by simp; omega
        have g4 : ((57 : Int) < (c : Int)) = True := by simp; omega
        have g5 : ((c : Int) == 45) = false := by simp; omega
        go_wp2
        go_roundg (s.size - (i + 1))
        case measure => have := HI.out; omega
        case rel =>
          have hI := HI.out
          refine ⟨i + 1, rfl, by go_num, by omega, ?_, by (repeat (first | with_reducible exact hbr | (with_reducible refine bext ?_ _ _) | (with_reducible refine below_drewN ?_ _) | (with_reducible refine Below.drew ?_) | (with_reducible refine bal ?_ _) | (with_reducible refine bset ?_ (by first | omega | (simp <;> omega)) _)))⟩
          intro j hj
          by_cases e : j = i
          · rw [e]; exact HG.out c HCc.out (by omega)
          · exact HD.out j (by omega)
      · have g1 : ((c : Int) < 97) = False := by simp; omega
        have g2 : ((122 : Int) < (c : Int)) = True := by simp; omega
        have g3 : ((c : Int) < 48) = False := by simp; omega
        have g4 : ((57 : Int) < (c : Int)) = True := by simp; omega
        have g5 : ((c : Int) == 45) = false := by simp; omega
        have HH := Lib.hid (HB.out c HCc.out (by omega))
        go_wp2
        go_ret
        exact ⟨ret_sb HH.out.symm, by (repeat (first | with_reducible exact hbr | (with_reducible refine bext ?_ _ _) | (with_reducible refine below_drewN ?_ _) | (with_reducible refine Below.drew ?_) | (with_reducible refine bal ?_ _) | (with_reducible refine bset ?_ (by first | omega | (simp <;> omega)) _)))⟩
    · have zi : ((i : Int) < (s.size : Int)) = False := by simp; omega
      have hn : nameB s = true := by
        rw [HN.out]
        exact decide_eq_true (fun k hk => hG k (by omega))
      have HH := Lib.hid hn
      clear hG hn
      go_wp2
      go_ret
      exact ⟨ret_sb HH.out.symm, by (repeat (first | with_reducible exact hbr | (with_reducible refine bext ?_ _ _) | (with_reducible refine below_drewN ?_ _) | (with_reducible refine Below.drew ?_) | (with_reducible refine bal ?_ _) | (with_reducible refine bset ?_ (by first | omega | (simp <;> omega)) _)))⟩
end Go.Proofs.Ytmjbeplcabomdaa
