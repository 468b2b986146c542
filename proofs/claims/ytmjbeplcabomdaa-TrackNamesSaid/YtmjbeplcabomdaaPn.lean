/-
  Names of sources: the code's and the reference's check of a string.
-/
import Derived.Test.YtmjbeplcabomdaaRows
import Derived.WalkKit
import Derived.WalkSpells
import Derived.WalkLawsBesides
import Derived.Laws.IdiomStrings
import Derived.Lib.Hide
import Derived.Handy
import Derived.Deep.QuietTactic
import Derived.Deep.LoopGhost
import Derived.BigQuiet
import Derived.Deep.RegionHeld3
import Derived.Test.YtmjbeplcabomdaaSm
namespace Go.Proofs.Ytmjbeplcabomdaa
open Go.RowKit
set_option linter.unusedVariables false
set_option linter.unusedSimpArgs false

/-- The bytes of a string. -/
def chN (s : ByteArray) (k : Nat) : Nat := (s.data.toList.getD k 0).toNat
def goodC (s : ByteArray) (k : Nat) : Prop := (97 ≤ chN s k ∧ chN s k ≤ 122) ∨ (k ≠ 0 ∧ ((48 ≤ chN s k ∧ chN s k ≤ 57) ∨ chN s k = 45))
instance (s : ByteArray) (k : Nat) : Decidable (goodC s k) := by unfold goodC; infer_instance
def nameB (s : ByteArray) : Bool := decide (1 ≤ s.size ∧ s.size ≤ 40 ∧ ∀ k, k < s.size → goodC s k)
theorem getD_at (s : ByteArray) (k : Nat) (h : k < s.size) : s.data.toList.getD k 0 = s.data[k]'h := by
  have h2 : k < s.data.toList.length := by simpa using h
  rw [List.getD_eq_getElem?_getD, List.getElem?_eq_getElem h2]
  simp
theorem bytes_cell (s : ByteArray) (cap j : Nat) (h : j < s.size) : (bytesRow s cap)[j]? = some (.int .u8 (chN s j : Nat)) := by
  rw [bytesRow_at s cap j h]
  unfold chN
  rw [getD_at s j h]
theorem list_empty (s : ByteArray) : ((s.toList = []) = (s.size = 0)) ∧ s.toList.isEmpty = decide (s.size = 0) := by
  rw [ByteArray.toList_eq]
  obtain ⟨⟨l⟩⟩ := s
  cases l with
  | nil => exact ⟨by simp [ByteArray.size], rfl⟩
  | cons x l => exact ⟨by simp [ByteArray.size], rfl⟩
theorem name_no {s : ByteArray} {k : Nat} (hk : k < s.size) (h : ¬ goodC s k) : nameB s = false := by
  unfold nameB
  exact decide_eq_false (fun c => h (c.2.2 k hk))
theorem range_split (c : Nat) : c < 45 ∨ c = 45 ∨ (45 < c ∧ c < 48) ∨ (48 ≤ c ∧ c ≤ 57) ∨ (57 < c ∧ c < 97) ∨ (97 ≤ c ∧ c ≤ 122) ∨ 122 < c := by omega

set_option maxRecDepth 100000 in
set_option maxHeartbeats 1600000 in
theorem track_isName (s : ByteArray) (w : World) :
    Calls Try.prog 28 #[.string s] w fun e w' => e = .returned (.bool (nameB s)) ∧ Below w.heap.size w w' := by
  obtain ⟨HE, HF⟩ := list_empty s
  by_cases h0 : s.size = 0
  · rw [eq_true h0] at HE
    rw [decide_eq_true h0] at HF
    have hn : nameB s = false := by unfold nameB; exact decide_eq_false (by omega)
    rw [hn]
    clear h0 hn
    go_enter Try.func28, Try.ntmps28
    go_wp2
    go_ret
    exact ⟨rfl, b0 _⟩
  rw [eq_false h0] at HE
  rw [decide_eq_false h0] at HF
  by_cases h1 : 40 < s.size
  · have hn : nameB s = false := by unfold nameB; exact decide_eq_false (by omega)
    have z1 : ((40 : Int) < (s.size : Int)) = True := by simp; omega
    rw [hn]
    clear h0 hn h1
    go_enter Try.func28, Try.ntmps28
    go_wp2
    go_ret
    exact ⟨rfl, b0 _⟩
  have z1 : ((40 : Int) < (s.size : Int)) = False := by simp; omega
  have hconv := run_bytes_of_string (P := Try.prog) w 9 84 5 s Try.underlying9 Try.underlying84 Try.underlying5
  have hC := fun j (h : j < s.size) => bytes_cell s (grownCap w s.size 0 5) j h
  generalize grownCap w s.size 0 5 = cap at *
  generalize bytesRow s cap = C at *
  have hN : nameB s = decide (∀ k, k < s.size → goodC s k) := by
    unfold nameB
    rw [decide_eq_decide]
    exact ⟨fun h => h.2.2, fun h => ⟨by omega, by omega, h⟩⟩
  have hX : ∀ k, k < s.size → ¬ goodC s k → nameB s = false := fun k h1 h2 => name_no h1 h2
  have HN := Lib.hid hN
  have HX := Lib.hid hX
  have HC := Lib.hid hC
  clear hN hX hC h0 h1
  go_enter Try.func28, Try.ntmps28
  go_wp2
  go_loopg [17] s.size (fun kk s17 wr => ∃ i : Nat, kk = s.size - i ∧ s17 = .int .i64 i ∧ i ≤ s.size ∧ (∀ j, j < i → goodC s j) ∧ (∀ j, j < s.size → wr.cell? ⟨w.heap.size, j, none⟩ = some (.int .u8 (chN s j : Nat))) ∧ Below w.heap.size w wr)
  case atStart =>
    refine ⟨0, by omega, rfl, by omega, fun j h => absurd h (by omega), ?_, ?_⟩
    · intro j h
      have := HC.out j h
      have e := World.cell?_alloc_mark w C 5 (C.size, C.size + 1) j
      exact e.trans this
    · (repeat (first | with_reducible exact b0 _ | (with_reducible refine bext ?_ _ _) | (with_reducible refine below_drewN ?_ _) | (with_reducible refine Below.drew ?_) | (with_reducible refine bal ?_ _)))
  case round =>
    obtain ⟨i, rfl, rfl, him, hG, cR, hbr⟩ := hrel
    by_cases hi : i < s.size
    · have e0 := cR i hi
      have zi : ((i : Int) < (s.size : Int)) = True := by simp; omega
      have hgood : ∀ c : Nat, chN s i = c → ((97 ≤ c ∧ c ≤ 122) ∨ (i ≠ 0 ∧ ((48 ≤ c ∧ c ≤ 57) ∨ c = 45))) → goodC s i := by
        intro c h1 h2; unfold goodC; rw [h1]; exact h2
      have hbad : ∀ c : Nat, chN s i = c → ¬ ((97 ≤ c ∧ c ≤ 122) ∨ (i ≠ 0 ∧ ((48 ≤ c ∧ c ≤ 57) ∨ c = 45))) → nameB s = false := by
        intro c h1 h2; exact HX.out i hi (by unfold goodC; rw [h1]; exact h2)
      have HG := Lib.hid hgood
      have HB := Lib.hid hbad
      have HR := Lib.hid cR
      have HD := Lib.hid hG
      have HI := Lib.hid hi
      have i40 : i ≤ 40 := by
        have : ¬ (40 : Int) < (s.size : Int) := by rw [z1]; exact id
        omega
      clear hgood hbad cR hG hi HE HF z1 hconv him
      obtain ⟨c, hc⟩ : ∃ c, chN s i = c := ⟨_, rfl⟩
      have HCc := Lib.hid hc
      rw [hc] at e0
      clear hc
      by_cases hz : i = 0
      · have f0 : ((i : Int) == 0) = true := by simp; omega
        have HZ := Lib.hid hz
        clear hz
        rcases range_split c with h | h | h | h | h | h | h
        · have g1 : ((97 : Int) ≤ (c : Int)) = False := by simp; omega
          have g2 : ((c : Int) ≤ 122) = True := by simp; omega
          have g3 : ((48 : Int) ≤ (c : Int)) = False := by simp; omega
          have g4 : ((c : Int) ≤ 57) = True := by simp; omega
          have g5 : ((c : Int) == 45) = false := by simp; omega
          have HH := Lib.hid (HB.out c HCc.out (by have := HZ.out; omega))
          go_wp2
          go_ret
          exact ⟨ret_sb HH.out.symm, by (repeat (first | with_reducible exact hbr | (with_reducible refine bext ?_ _ _) | (with_reducible refine below_drewN ?_ _) | (with_reducible refine Below.drew ?_) | (with_reducible refine bal ?_ _) | (with_reducible refine bset ?_ (by first | omega | (simp <;> omega)) _)))⟩
        · have g1 : ((97 : Int) ≤ (c : Int)) = False := by simp; omega
          have g2 : ((c : Int) ≤ 122) = True := by simp; omega
          have g3 : ((48 : Int) ≤ (c : Int)) = False := by simp; omega
          have g4 : ((c : Int) ≤ 57) = True := by simp; omega
          have g5 : ((c : Int) == 45) = true := by simp; omega
          have HH := Lib.hid (HB.out c HCc.out (by have := HZ.out; omega))
          go_wp2
          go_ret
          exact ⟨ret_sb HH.out.symm, by (repeat (first | with_reducible exact hbr | (with_reducible refine bext ?_ _ _) | (with_reducible refine below_drewN ?_ _) | (with_reducible refine Below.drew ?_) | (with_reducible refine bal ?_ _) | (with_reducible refine bset ?_ (by first | omega | (simp <;> omega)) _)))⟩
        · have g1 : ((97 : Int) ≤ (c : Int)) = False := by simp; omega
          have g2 : ((c : Int) ≤ 122) = True := by simp; omega
          have g3 : ((48 : Int) ≤ (c : Int)) = False := by simp; omega
          have g4 : ((c : Int) ≤ 57) = True := by simp; omega
          have g5 : ((c : Int) == 45) = false := by simp; omega
          have HH := Lib.hid (HB.out c HCc.out (by have := HZ.out; omega))
          go_wp2
          go_ret
          exact ⟨ret_sb HH.out.symm, by (repeat (first | with_reducible exact hbr | (with_reducible refine bext ?_ _ _) | (with_reducible refine below_drewN ?_ _) | (with_reducible refine Below.drew ?_) | (with_reducible refine bal ?_ _) | (with_reducible refine bset ?_ (by first | omega | (simp <;> omega)) _)))⟩
        · have g1 : ((97 : Int) ≤ (c : Int)) = False := by simp; omega
          have g2 : ((c : Int) ≤ 122) = True := by simp; omega
          have g3 : ((48 : Int) ≤ (c : Int)) = True := by simp; omega
          have g4 : ((c : Int) ≤ 57) = True := by simp; omega
          have g5 : ((c : Int) == 45) = false := by simp; omega
          have HH := Lib.hid (HB.out c HCc.out (by have := HZ.out; omega))
          go_wp2
          go_ret
          exact ⟨ret_sb HH.out.symm, by (repeat (first | with_reducible exact hbr | (with_reducible refine bext ?_ _ _) | (with_reducible refine below_drewN ?_ _) | (with_reducible refine Below.drew ?_) | (with_reducible refine bal ?_ _) | (with_reducible refine bset ?_ (by first | omega | (simp <;> omega)) _)))⟩
        · have g1 : ((97 : Int) ≤ (c : Int)) = False := by simp; omega
          have g2 : ((c : Int) ≤ 122) = True := by simp; omega
          have g3 : ((48 : Int) ≤ (c : Int)) = True := by simp; omega
          have g4 : ((c : Int) ≤ 57) = False := by simp; omega
          have g5 : ((c : Int) == 45) = false := by simp; omega
          have HH := Lib.hid (HB.out c HCc.out (by have := HZ.out; omega))
          go_wp2
          go_ret
          exact ⟨ret_sb HH.out.symm, by (repeat (first | with_reducible exact hbr | (with_reducible refine bext ?_ _ _) | (with_reducible refine below_drewN ?_ _) | (with_reducible refine Below.drew ?_) | (with_reducible refine bal ?_ _) | (with_reducible refine bset ?_ (by first | omega | (simp <;> omega)) _)))⟩
        · have g1 : ((97 : Int) ≤ (c : Int)) = True := by simp; omega
          have g2 : ((c : Int) ≤ 122) = True := by simp; omega
          have g3 : ((48 : Int) ≤ (c : Int)) = True := by simp; omega
          have g4 : ((c : Int) ≤ 57) = False := by simp; omega
          have g5 : ((c : Int) == 45) = false := by simp; omega
          go_wp2
          go_roundg (s.size - (i + 1))
          case measure => have := HI.out; omega
          case rel =>
            have hI := HI.out
            refine ⟨i + 1, rfl, by go_num, by omega, ?_, HR.out, by (repeat (first | with_reducible exact hbr | (with_reducible refine bext ?_ _ _) | (with_reducible refine below_drewN ?_ _) | (with_reducible refine Below.drew ?_) | (with_reducible refine bal ?_ _) | (with_reducible refine bset ?_ (by first | omega | (simp <;> omega)) _)))⟩
            intro j hj
            by_cases e : j = i
            · rw [e]; exact HG.out c HCc.out (by have := HZ.out; omega)
            · exact HD.out j (by omega)
        · have g1 : ((97 : Int) ≤ (c : Int)) = True := by simp; omega
          have g2 : ((c : Int) ≤ 122) = False := by simp; omega
          have g3 : ((48 : Int) ≤ (c : Int)) = True := by simp; omega
          have g4 : ((c : Int) ≤ 57) = False := by simp; omega
          have g5 : ((c : Int) == 45) = false := by simp; omega
          have HH := Lib.hid (HB.out c HCc.out (by have := HZ.out; omega))
          go_wp2
          go_ret
          exact ⟨ret_sb HH.out.symm, by (repeat (first | with_reducible exact hbr | (with_reducible refine bext ?_ _ _) | (with_reducible refine below_drewN ?_ _) | (with_reducible refine Below.drew ?_) | (with_reducible refine bal ?_ _) | (with_reducible refine bset ?_ (by first | omega | (simp <;> omega)) _)))⟩
      · have f0 : ((i : Int) == 0) = false := by simp; omega
        have HZ := Lib.hid hz
        clear hz
        rcases range_split c with h | h | h | h | h | h | h
        · have g1 : ((97 : Int) ≤ (c : Int)) = False := by simp; omega
          have g2 : ((c : Int) ≤ 122) = True := by simp; omega
          have g3 : ((48 : Int) ≤ (c : Int)) = False := by simp; omega
          have g4 : ((c : Int) ≤ 57) = True := by simp; omega
          have g5 : ((c : Int) == 45) = false := by simp; omega
          have HH := Lib.hid (HB.out c HCc.out (by have := HZ.out; omega))
          go_wp2
          go_ret
          exact ⟨ret_sb HH.out.symm, by (repeat (first | with_reducible exact hbr | (with_reducible refine bext ?_ _ _) | (with_reducible refine below_drewN ?_ _) | (with_reducible refine Below.drew ?_) | (with_reducible refine bal ?_ _) | (with_reducible refine bset ?_ (by first | omega | (simp <;> omega)) _)))⟩
        · have g1 : ((97 : Int) ≤ (c : Int)) = False := by simp; omega
          have g2 : ((c : Int) ≤ 122) = True := by simp; omega
          have g3 : ((48 : Int) ≤ (c : Int)) = False := by simp; omega
          have g4 : ((c : Int) ≤ 57) = True := by simp; omega
          have g5 : ((c : Int) == 45) = true := by simp; omega
          go_wp2
          go_roundg (s.size - (i + 1))
          case measure => have := HI.out; omega
          case rel =>
            have hI := HI.out
            refine ⟨i + 1, rfl, by go_num, by omega, ?_, HR.out, by (repeat (first | with_reducible exact hbr | (with_reducible refine bext ?_ _ _) | (with_reducible refine below_drewN ?_ _) | (with_reducible refine Below.drew ?_) | (with_reducible refine bal ?_ _) | (with_reducible refine bset ?_ (by first | omega | (simp <;> omega)) _)))⟩
            intro j hj
            by_cases e : j = i
            · rw [e]; exact HG.out c HCc.out (by have := HZ.out; omega)
            · exact HD.out j (by omega)
        · have g1 : ((97 : Int) ≤ (c : Int)) = False := by simp; omega
          have g2 : ((c : Int) ≤ 122) = True := by simp; omega
          have g3 : ((48 : Int) ≤ (c : Int)) = False := by simp; omega
          have g4 : ((c : Int) ≤ 57) = True := by simp; omega
          have g5 : ((c : Int) == 45) = false := by simp; omega
          have HH := Lib.hid (HB.out c HCc.out (by have := HZ.out; omega))
          go_wp2
          go_ret
          exact ⟨ret_sb HH.out.symm, by (repeat (first | with_reducible exact hbr | (with_reducible refine bext ?_ _ _) | (with_reducible refine below_drewN ?_ _) | (with_reducible refine Below.drew ?_) | (with_reducible refine bal ?_ _) | (with_reducible refine bset ?_ (by first | omega | (simp <;> omega)) _)))⟩
        · have g1 : ((97 : Int) ≤ (c : Int)) = False := by simp; omega
          have g2 : ((c : Int) ≤ 122) = True := by simp; omega
          have g3 : ((48 : Int) ≤ (c : Int)) = True := by simp; omega
          have g4 : ((c : Int) ≤ 57) = True := by simp; omega
          have g5 : ((c : Int) == 45) = false := by simp; omega
          go_wp2
          go_roundg (s.size - (i + 1))
          case measure => have := HI.out; omega
          case rel =>
            have hI := HI.out
            refine ⟨i + 1, rfl, by go_num, by omega, ?_, HR.out, by (repeat (first | with_reducible exact hbr | (with_reducible refine bext ?_ _ _) | (with_reducible refine below_drewN ?_ _) | (with_reducible refine Below.drew ?_) | (with_reducible refine bal ?_ _) | (with_reducible refine bset ?_ (by first | omega | (simp <;> omega)) _)))⟩
            intro j hj
            by_cases e : j = i
            · rw [e]; exact HG.out c HCc.out (by have := HZ.out; omega)
            · exact HD.out j (by omega)
        · have g1 : ((97 : Int) ≤ (c : Int)) = False := by simp; omega
          have g2 : ((c : Int) ≤ 122) = True := by simp; omega
          have g3 : ((48 : Int) ≤ (c : Int)) = True := by simp; omega
          have g4 : ((c : Int) ≤ 57) = False := by simp; omega
          have g5 : ((c : Int) == 45) = false := by simp; omega
          have HH := Lib.hid (HB.out c HCc.out (by have := HZ.out; omega))
          go_wp2
          go_ret
          exact ⟨ret_sb HH.out.symm, by (repeat (first | with_reducible exact hbr | (with_reducible refine bext ?_ _ _) | (with_reducible refine below_drewN ?_ _) | (with_reducible refine Below.drew ?_) | (with_reducible refine bal ?_ _) | (with_reducible refine bset ?_ (by first | omega | (simp <;> omega)) _)))⟩
        · have g1 : ((97 : Int) ≤ (c : Int)) = True := by simp; omega
          have g2 : ((c : Int) ≤ 122) = True := by simp; omega
          have g3 : ((48 : Int) ≤ (c : Int)) = True := by simp; omega
          have g4 : ((c : Int) ≤ 57) = False := by simp; omega
          have g5 : ((c : Int) == 45) = false := by simp; omega
          go_wp2
          go_roundg (s.size - (i + 1))
          case measure => have := HI.out; omega
          case rel =>
            have hI := HI.out
            refine ⟨i + 1, rfl, by go_num, by omega, ?_, HR.out, by (repeat (first | with_reducible exact hbr | (with_reducible refine bext ?_ _ _) | (with_reducible refine below_drewN ?_ _) | (with_reducible refine Below.drew ?_) | (with_reducible refine bal ?_ _) | (with_reducible refine bset ?_ (by first | omega | (simp <;> omega)) _)))⟩
            intro j hj
            by_cases e : j = i
            · rw [e]; exact HG.out c HCc.out (by have := HZ.out; omega)
            · exact HD.out j (by omega)
        · have g1 : ((97 : Int) ≤ (c : Int)) = True := by simp; omega
          have g2 : ((c : Int) ≤ 122) = False := by simp; omega
          have g3 : ((48 : Int) ≤ (c : Int)) = True := by simp; omega
          have g4 : ((c : Int) ≤ 57) = False := by simp; omega
          have g5 : ((c : Int) == 45) = false := by simp; omega
          have HH := Lib.hid (HB.out c HCc.out (by have := HZ.out; omega))
          go_wp2
          go_ret
          exact ⟨ret_sb HH.out.symm, by (repeat (first | with_reducible exact hbr | (with_reducible refine bext ?_ _ _) | (with_reducible refine below_drewN ?_ _) | (with_reducible refine Below.drew ?_) | (with_reducible refine bal ?_ _) | (with_reducible refine bset ?_ (by first | omega | (simp <;> omega)) _)))⟩
    · have zi : ((i : Int) < (s.size : Int)) = False := by simp; omega
      have hn : nameB s = true := by
        rw [HN.out]
        exact decide_eq_true (fun k hk => hG k (by omega))
      have HH := Lib.hid hn
      clear HE HF z1 hconv cR hG hn
      go_wp2
      go_ret
      exact ⟨ret_sb HH.out.symm, by (repeat (first | with_reducible exact hbr | (with_reducible refine bext ?_ _ _) | (with_reducible refine below_drewN ?_ _) | (with_reducible refine Below.drew ?_) | (with_reducible refine bal ?_ _) | (with_reducible refine bset ?_ (by first | omega | (simp <;> omega)) _)))⟩
end Go.Proofs.Ytmjbeplcabomdaa
