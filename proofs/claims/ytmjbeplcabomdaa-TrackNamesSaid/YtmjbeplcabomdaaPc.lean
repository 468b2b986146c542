/-
  Sources and ticks: the code's and the reference's checks.
-/
import Derived.Test.YtmjbeplcabomdaaPn
namespace Go.Proofs.Ytmjbeplcabomdaa
open Go.RowKit
set_option linter.unusedVariables false
set_option linter.unusedSimpArgs false

/-- The error of a source. -/
def srE (s : ByteArray) (ra dec : Int) : Int := if nameB s = true then (if ra < 0 then 8 else if 720 ≤ ra then 8 else if dec < -180 then 8 else if 180 < dec then 8 else 0) else 8
theorem srE_ok {s : ByteArray} {ra dec : Int} (h : srE s ra dec = 0) : nameB s = true ∧ 0 ≤ ra ∧ ra < 720 ∧ -180 ≤ dec ∧ dec ≤ 180 := by
  unfold srE at h
  by_cases hn : nameB s = true
  · rw [if_pos hn] at h
    refine ⟨hn, ?_⟩
    split at h
    · omega
    · split at h
      · omega
      · split at h
        · omega
        · split at h <;> omega
  · rw [if_neg hn] at h; omega
theorem srE_or (s : ByteArray) (ra dec : Int) : srE s ra dec = 0 ∨ srE s ra dec = 8 := by
  unfold srE
  split
  · split
    · omega
    · split
      · omega
      · split
        · omega
        · split <;> omega
  · omega
def tkB (t : Int) : Bool := decide (-1000000 ≤ t ∧ t ≤ 1000000)

set_option maxRecDepth 100000 in
set_option maxHeartbeats 800000 in
theorem track_Check (s : ByteArray) (ra dec : Int) (w : World) :
    Calls Try.prog 8 #[.agg #[.string s, .int .i64 ra, .int .i64 dec]] w fun e w' => e = .returned (.int .i64 (srE s ra dec)) ∧ Below w.heap.size w w' := by
  have A1 := fun w => track_isName s w
  have hr : srE s ra dec = if nameB s = true then (if ra < 0 then 8 else if 720 ≤ ra then 8 else if dec < -180 then 8 else if 180 < dec then 8 else 0) else 8 := rfl
  generalize srE s ra dec = r at *
  generalize nameB s = n at *
  have HR := Lib.hid hr
  clear hr
  have dAl := dAl; have dSt := dSt; have xC := ext_cell; have xF := ext_frozen; have xS := ext_set; have xN := ext_drewN; have xD := ext_drew; have xL := ext_lt; have xE := ext_ne; have xG := ext_nr; have xX := ext_ext; have xL1 := ext_lt1; have xL2 := ext_lt2; have xL3 := ext_lt3; have xM0 := ext_le0; have xM1 := ext_le1; have xM2 := ext_le2
  go_enter Try.func8, Try.ntmps8
  go_wp2_with fail
  refine (A1 _).mono ?_
  rintro e w1c ⟨rfl, hb1c⟩
  obtain ⟨l1c, d1c, rfl⟩ := toExt hb1c
  clear hb1c
  go_wp2
  all_goals go_ret
  all_goals exact ⟨ret_s1 (by rw [HR.out]; simp [*]; try omega), by (repeat (first | with_reducible exact b0 _ | (with_reducible refine bext ?_ _ _) | (with_reducible refine below_drewN ?_ _) | (with_reducible refine Below.drew ?_) | (with_reducible refine bal ?_ _)))⟩

set_option maxHeartbeats 400000 in
theorem track_isTick (t : Int) (w : World) :
    Calls Try.prog 29 #[.int .i64 t] w fun e w' => e = .returned (.bool (tkB t)) ∧ Below w.heap.size w w' := by
  go_enter Try.func29, Try.ntmps29
  go_wp2
  all_goals go_ret
  all_goals exact ⟨ret_sb (by simp [tkB, *]; try omega), b0 _⟩
end Go.Proofs.Ytmjbeplcabomdaa
