/-
  Package track: paths.  Package track: a path that is one.
-/
import Derived.Test.YtmjbeplcabomdaaQb
import Derived.Laws.MakeOwn
import Derived.Deep.OwnRows
namespace Go.Proofs.Ytmjbeplcabomdaa
open Go.RowKit
set_option linter.unusedVariables false
set_option linter.unusedSimpArgs false
/-- The numbers of a direction, one behind the other. -/
def dirC (dec l : Int) : Nat → Int
  | 0 => dxL dec l | 1 => dxH dec l | 2 => dyL dec l | 3 => dyH dec l | 4 => sL dec | _ => sH dec
/-- The numbers of a path. -/
def pth (ra dec fr st : Int) (o : Nat) : Int := dirC dec (ra - (fr + st * ((o / 6 : Nat) : Int))) (o % 6)
theorem pth_at (ra dec fr st : Int) (i q : Nat) (hq : q < 6) : pth ra dec fr st (i * 6 + q) = dirC dec (ra - (fr + st * (i : Int))) q := by
  have h1 : (i * 6 + q) / 6 = i := by omega
  have h2 : (i * 6 + q) % 6 = q := by omega
  unfold pth
  rw [h1, h2]
def pthU (ra dec fr st : Int) (i o : Nat) : Int := if o < i * 6 then pth ra dec fr st o else 0
theorem cells_up {w : World} {g m i : Nat} {N N' : Nat → Int} {y0 y1 y2 y3 y4 y5 : Int} (h : Cs w g m N) (hi : i * 6 + 5 < m) (e0 : N' (i * 6) = y0) (e1 : N' (i * 6 + 1) = y1) (e2 : N' (i * 6 + 2) = y2) (e3 : N' (i * 6 + 3) = y3) (e4 : N' (i * 6 + 4) = y4) (e5 : N' (i * 6 + 5) = y5)
    (he : ∀ o, o < m → ¬ (i * 6 ≤ o ∧ o ≤ i * 6 + 5) → N o = N' o) :
    Cs ((((((w.setCell ⟨g, i * 6, none⟩ (.int .i64 y0)).setCell ⟨g, i * 6 + 1, none⟩ (.int .i64 y1)).setCell ⟨g, i * 6 + 2, none⟩ (.int .i64 y2)).setCell ⟨g, i * 6 + 3, none⟩ (.int .i64 y3)).setCell ⟨g, i * 6 + 4, none⟩ (.int .i64 y4)).setCell ⟨g, i * 6 + 5, none⟩ (.int .i64 y5)) g m N' := by
  refine cs_eq (cs_up (cs_up (cs_up (cs_up (cs_up (cs_up h (show i * 6 < m by omega)) (show i * 6 + 1 < m by omega)) (show i * 6 + 2 < m by omega)) (show i * 6 + 3 < m by omega)) (show i * 6 + 4 < m by omega)) (show i * 6 + 5 < m by omega)) ?_
  intro o ho
  unfold up
  by_cases q5 : o = i * 6 + 5
  · rw [if_pos q5, q5, e5]
  rw [if_neg q5]
  by_cases q4 : o = i * 6 + 4
  · rw [if_pos q4, q4, e4]
  rw [if_neg q4]
  by_cases q3 : o = i * 6 + 3
  · rw [if_pos q3, q3, e3]
  rw [if_neg q3]
  by_cases q2 : o = i * 6 + 2
  · rw [if_pos q2, q2, e2]
  rw [if_neg q2]
  by_cases q1 : o = i * 6 + 1
  · rw [if_pos q1, q1, e1]
  rw [if_neg q1]
  by_cases q0 : o = i * 6
  · rw [if_pos q0, q0, e0]
  rw [if_neg q0]
  exact he o ho (by omega)
def zero6 : Array Value := #[.int .i64 0, .int .i64 0, .int .i64 0, .int .i64 0, .int .i64 0, .int .i64 0]
theorem infoDir : (Try.prog.info? 30).map (fun i => (i.zero, i.size, i.bytes)) = some (some (.agg zero6), 6, 48) := by kernel_rfl
theorem made6 (n o : Nat) (h : o < n * 6) : (madeCells zero6 (n * 6))[o]? = some (.int .i64 0) := by
  unfold madeCells
  rw [Array.getElem?_map, Array.getElem?_range, if_pos h]
  simp only [Option.map_some]
  have hm : o % 6 < 6 := Nat.mod_lt _ (by omega)
  have : o % zero6.size = o % 6 := rfl
  rw [this]
  generalize o % 6 = k at hm
  rcases (show k = 0 ∨ k = 1 ∨ k = 2 ∨ k = 3 ∨ k = 4 ∨ k = 5 by omega) with rfl | rfl | rfl | rfl | rfl | rfl <;> rfl
theorem make_dirs (n : Nat) (h : n ≤ 1000) (w : World) :
    (Instr.makeSlice 33 (.int .i64 (n : Int)) (.int .i64 (n : Int))).run Try.prog w = .ok (.slice (some ⟨w.heap.size, 0, none⟩) n n) (w.alloc (.cells (madeCells zero6 (n * 6)) 30)) := by
  obtain ⟨i, hi, hzz⟩ := Option.map_eq_some_iff.1 infoDir
  simp only [Prod.mk.injEq] at hzz
  obtain ⟨hz, hs, hb⟩ := hzz
  have hr := run_make (P := Try.prog) w 33 30 i (.agg zero6) Try.underlying33 hi hz .i64 .i64 (n : Int) (n : Int) (by omega) (Int.le_refl _) (by rw [hb]; omega) (by omega)
  rw [hs] at hr
  exact hr
theorem made_cs (w : World) (n : Nat) : Cs (w.alloc (.cells (madeCells zero6 (n * 6)) 30)) w.heap.size (n * 6) (fun _ => 0) := cs_new rfl (fun o ho => made6 n o ho)
theorem made_fs (w : World) (n : Nat) : Fs (w.alloc (.cells (madeCells zero6 (n * 6)) 30)) w.heap.size (n * 6) := fs_new rfl

/-- The last tick of a path, and its error. -/
def lastT (fr st many : Int) : Int := fr + st * ma2 (many - 1) 0
def paE (s : ByteArray) (ra dec fr st many : Int) : Int := if srE s ra dec = 0 then (if many < 0 then 4 else if 100 < many then 4 else if st < 1 then 2 else if 720 < st then 2 else if tkB fr = true then (if tkB (lastT fr st many) = true then 0 else 2) else 2) else 8
theorem ma_bd {many : Int} (h0 : ¬ many < 0) (h1 : ¬ 100 < many) : 0 ≤ ma2 (many - 1) 0 ∧ ma2 (many - 1) 0 ≤ 99 ∧ (many = 0 → ma2 (many - 1) 0 = 0) ∧ (many ≠ 0 → ma2 (many - 1) 0 = many - 1) := by unfold ma2; omega
theorem st_bd {st m : Int} (h0 : ¬ st < 1) (h1 : ¬ 720 < st) (m0 : 0 ≤ m) (m1 : m ≤ 99) : 0 ≤ st * m ∧ st * m ≤ 71280 := by
  have a := Int.mul_nonneg (show 0 ≤ st by omega) m0
  have b := Int.mul_le_mul (show st ≤ 720 by omega) m1 m0 (by omega)
  omega
theorem paE_ok {s : ByteArray} {ra dec fr st many : Int} (h : paE s ra dec fr st many = 0) : srE s ra dec = 0 ∧ ¬ many < 0 ∧ ¬ 100 < many ∧ ¬ st < 1 ∧ ¬ 720 < st ∧ tkB fr = true ∧ tkB (lastT fr st many) = true := by
  unfold paE at h
  by_cases h1 : srE s ra dec = 0
  · rw [if_pos h1] at h
    by_cases h2 : many < 0
    · rw [if_pos h2] at h; omega
    rw [if_neg h2] at h
    by_cases h3 : 100 < many
    · rw [if_pos h3] at h; omega
    rw [if_neg h3] at h
    by_cases h4 : st < 1
    · rw [if_pos h4] at h; omega
    rw [if_neg h4] at h
    by_cases h5 : 720 < st
    · rw [if_pos h5] at h; omega
    rw [if_neg h5] at h
    by_cases h6 : tkB fr = true
    · rw [if_pos h6] at h
      by_cases h7 : tkB (lastT fr st many) = true
      · exact ⟨h1, h2, h3, h4, h5, h6, h7⟩
      · rw [if_neg h7] at h; omega
    · rw [if_neg h6] at h; omega
  · rw [if_neg h1] at h; omega

set_option maxRecDepth 100000 in
set_option maxHeartbeats 3200000 in
theorem track_Path_no (s : ByteArray) (ra dec fr st many : Int) (hE : ¬ paE s ra dec fr st many = 0) (w : World) :
    Calls Try.prog 11 #[.agg #[.string s, .int .i64 ra, .int .i64 dec], .int .i64 fr, .int .i64 st, .int .i64 many] w fun e w' => e = .returned (.tuple #[.slice none 0 0, .int .i64 (paE s ra dec fr st many)]) ∧ Below w.heap.size w w' := by
  have A1 := fun w => track_Check s ra dec w
  unfold paE at *
  by_cases h1 : srE s ra dec = 0
  · rw [h1] at A1
    rw [if_pos h1] at *
    clear h1
    by_cases h2 : many < 0
    · have g2 : (many < 0) = True := eq_true h2
      rw [if_pos h2]
      clear hE h2
      have dAl := dAl; have dSt := dSt; have xC := ext_cell; have xF := ext_frozen; have xS := ext_set; have xN := ext_drewN; have xD := ext_drew; have xL := ext_lt; have xE := ext_ne; have xG := ext_nr; have xX := ext_ext; have xL1 := ext_lt1; have xL2 := ext_lt2; have xL3 := ext_lt3; have xM0 := ext_le0; have xM1 := ext_le1; have xM2 := ext_le2
      go_enter Try.func11, Try.ntmps11
      go_wp2_with fail
      with_reducible refine (A1 _).mono ?_
      rintro e v1 ⟨rfl, hb1⟩
      have zz1 := hb1.size
      try simp [ext_size] at zz1
      have hB1 : Below w.heap.size w v1 := Below.trans (by (repeat (first | with_reducible exact b0 _ | (with_reducible refine bext ?_ _ _) | (with_reducible refine below_drewN ?_ _) | (with_reducible refine Below.drew ?_) | (with_reducible refine bal ?_ _)))) (hb1.mono (by first | omega | (simp [ext_size]; try omega)))
      have zw1 := hB1.size
      clear hb1
      clear dAl dSt xC xF xS xN xD xL xE xG xX xL1 xL2 xL3 xM0 xM1 xM2 A1
      go_wp2
      go_ret2
      exact ⟨rfl, by (repeat (first | with_reducible exact hB1 | (with_reducible refine bext ?_ _ _) | (with_reducible refine below_drewN ?_ _) | (with_reducible refine Below.drew ?_) | (with_reducible refine bal ?_ _) | (with_reducible refine bset ?_ (by first | omega | (simp <;> omega)) _)))⟩
    rw [if_neg h2] at *
    have g2 : (many < 0) = False := eq_false h2
    by_cases h3 : 100 < many
    · have g3 : (100 < many) = True := eq_true h3
      rw [if_pos h3]
      clear hE h2 h3
      have dAl := dAl; have dSt := dSt; have xC := ext_cell; have xF := ext_frozen; have xS := ext_set; have xN := ext_drewN; have xD := ext_drew; have xL := ext_lt; have xE := ext_ne; have xG := ext_nr; have xX := ext_ext; have xL1 := ext_lt1; have xL2 := ext_lt2; have xL3 := ext_lt3; have xM0 := ext_le0; have xM1 := ext_le1; have xM2 := ext_le2
      go_enter Try.func11, Try.ntmps11
      go_wp2_with fail
      with_reducible refine (A1 _).mono ?_
      rintro e v1 ⟨rfl, hb1⟩
      have zz1 := hb1.size
      try simp [ext_size] at zz1
      have hB1 : Below w.heap.size w v1 := Below.trans (by (repeat (first | with_reducible exact b0 _ | (with_reducible refine bext ?_ _ _) | (with_reducible refine below_drewN ?_ _) | (with_reducible refine Below.drew ?_) | (with_reducible refine bal ?_ _)))) (hb1.mono (by first | omega | (simp [ext_size]; try omega)))
      have zw1 := hB1.size
      clear hb1
      clear dAl dSt xC xF xS xN xD xL xE xG xX xL1 xL2 xL3 xM0 xM1 xM2 A1
      go_wp2
      go_ret2
      exact ⟨rfl, by (repeat (first | with_reducible exact hB1 | (with_reducible refine bext ?_ _ _) | (with_reducible refine below_drewN ?_ _) | (with_reducible refine Below.drew ?_) | (with_reducible refine bal ?_ _) | (with_reducible refine bset ?_ (by first | omega | (simp <;> omega)) _)))⟩
    rw [if_neg h3] at *
    have g3 : (100 < many) = False := eq_false h3
    by_cases h4 : st < 1
    · have g4 : (st < 1) = True := eq_true h4
      rw [if_pos h4]
      clear hE h2 h3 h4
      have dAl := dAl; have dSt := dSt; have xC := ext_cell; have xF := ext_frozen; have xS := ext_set; have xN := ext_drewN; have xD := ext_drew; have xL := ext_lt; have xE := ext_ne; have xG := ext_nr; have xX := ext_ext; have xL1 := ext_lt1; have xL2 := ext_lt2; have xL3 := ext_lt3; have xM0 := ext_le0; have xM1 := ext_le1; have xM2 := ext_le2
      go_enter Try.func11, Try.ntmps11
      go_wp2_with fail
      with_reducible refine (A1 _).mono ?_
      rintro e v1 ⟨rfl, hb1⟩
      have zz1 := hb1.size
      try simp [ext_size] at zz1
      have hB1 : Below w.heap.size w v1 := Below.trans (by (repeat (first | with_reducible exact b0 _ | (with_reducible refine bext ?_ _ _) | (with_reducible refine below_drewN ?_ _) | (with_reducible refine Below.drew ?_) | (with_reducible refine bal ?_ _)))) (hb1.mono (by first | omega | (simp [ext_size]; try omega)))
      have zw1 := hB1.size
      clear hb1
      clear dAl dSt xC xF xS xN xD xL xE xG xX xL1 xL2 xL3 xM0 xM1 xM2 A1
      go_wp2
      go_ret2
      exact ⟨rfl, by (repeat (first | with_reducible exact hB1 | (with_reducible refine bext ?_ _ _) | (with_reducible refine below_drewN ?_ _) | (with_reducible refine Below.drew ?_) | (with_reducible refine bal ?_ _) | (with_reducible refine bset ?_ (by first | omega | (simp <;> omega)) _)))⟩
    rw [if_neg h4] at *
    have g4 : (st < 1) = False := eq_false h4
    by_cases h5 : 720 < st
    · have g5 : (720 < st) = True := eq_true h5
      rw [if_pos h5]
      clear hE h2 h3 h4 h5
      have dAl := dAl; have dSt := dSt; have xC := ext_cell; have xF := ext_frozen; have xS := ext_set; have xN := ext_drewN; have xD := ext_drew; have xL := ext_lt; have xE := ext_ne; have xG := ext_nr; have xX := ext_ext; have xL1 := ext_lt1; have xL2 := ext_lt2; have xL3 := ext_lt3; have xM0 := ext_le0; have xM1 := ext_le1; have xM2 := ext_le2
      go_enter Try.func11, Try.ntmps11
      go_wp2_with fail
      with_reducible refine (A1 _).mono ?_
      rintro e v1 ⟨rfl, hb1⟩
      have zz1 := hb1.size
      try simp [ext_size] at zz1
      have hB1 : Below w.heap.size w v1 := Below.trans (by (repeat (first | with_reducible exact b0 _ | (with_reducible refine bext ?_ _ _) | (with_reducible refine below_drewN ?_ _) | (with_reducible refine Below.drew ?_) | (with_reducible refine bal ?_ _)))) (hb1.mono (by first | omega | (simp [ext_size]; try omega)))
      have zw1 := hB1.size
      clear hb1
      clear dAl dSt xC xF xS xN xD xL xE xG xX xL1 xL2 xL3 xM0 xM1 xM2 A1
      go_wp2
      go_ret2
      exact ⟨rfl, by (repeat (first | with_reducible exact hB1 | (with_reducible refine bext ?_ _ _) | (with_reducible refine below_drewN ?_ _) | (with_reducible refine Below.drew ?_) | (with_reducible refine bal ?_ _) | (with_reducible refine bset ?_ (by first | omega | (simp <;> omega)) _)))⟩
    rw [if_neg h5] at *
    have g5 : (720 < st) = False := eq_false h5
    have A2 := fun w => track_isTick fr w
    by_cases h6 : tkB fr = true
    · rw [if_pos h6] at *
      obtain ⟨f1, f2⟩ := tk_out h6
      rw [h6] at A2
      have A3 := fun w => track_isTick (lastT fr st many) w
      have h7 : tkB (lastT fr st many) = false := by
        by_cases h7 : tkB (lastT fr st many) = true
        · rw [if_pos h7] at hE; exact absurd rfl hE
        · simpa using h7
      rw [h7] at A3
      rw [if_neg (by simp [h7])]
      unfold lastT at A3
      obtain ⟨m0, m1, _, _⟩ := ma_bd h2 h3
      obtain ⟨q0, q1⟩ := st_bd h4 h5 m0 m1
      have M1 := run_max2
      clear h6 h7 hE h2 h3 h4 h5
      generalize hmx : ma2 (many - 1) 0 = mx at *
      generalize hq : st * mx = q at *
      have w1 : -9223372036854775808 ≤ fr + q := by omega
      have w2 : fr + q ≤ 9223372036854775807 := by omega
      have g6 : ¬ many < 0 := by rw [g2]; exact id
      have g7 : ¬ 100 < many := by rw [g3]; exact id
      have dAl := dAl; have dSt := dSt; have xC := ext_cell; have xF := ext_frozen; have xS := ext_set; have xN := ext_drewN; have xD := ext_drew; have xL := ext_lt; have xE := ext_ne; have xG := ext_nr; have xX := ext_ext; have xL1 := ext_lt1; have xL2 := ext_lt2; have xL3 := ext_lt3; have xM0 := ext_le0; have xM1 := ext_le1; have xM2 := ext_le2
      go_enter Try.func11, Try.ntmps11
      go_wp2_with fail
      with_reducible refine (A1 _).mono ?_
      rintro e v1 ⟨rfl, hb1⟩
      have zz1 := hb1.size
      try simp [ext_size] at zz1
      have hB1 : Below w.heap.size w v1 := Below.trans (by (repeat (first | with_reducible exact b0 _ | (with_reducible refine bext ?_ _ _) | (with_reducible refine below_drewN ?_ _) | (with_reducible refine Below.drew ?_) | (with_reducible refine bal ?_ _)))) (hb1.mono (by first | omega | (simp [ext_size]; try omega)))
      have zw1 := hB1.size
      clear hb1
      go_wp2_with fail
      with_reducible refine (A2 _).mono ?_
      rintro e v2 ⟨rfl, hb2⟩
      have zz2 := hb2.size
      try simp [ext_size] at zz2
      have hB2 : Below w.heap.size w v2 := Below.trans (by (repeat (first | with_reducible exact hB1 | (with_reducible refine bext ?_ _ _) | (with_reducible refine below_drewN ?_ _) | (with_reducible refine Below.drew ?_) | (with_reducible refine bal ?_ _) | (with_reducible refine bset ?_ (by first | omega | (simp <;> omega)) _)))) (hb2.mono (by first | omega | (simp [ext_size]; try omega)))
      have zw2 := hB2.size
      clear hb2
      clear zz1 zw1 hB1
      go_wp2_with fail
      with_reducible refine (A3 _).mono ?_
      rintro e v3 ⟨rfl, hb3⟩
      have zz3 := hb3.size
      try simp [ext_size] at zz3
      have hB3 : Below w.heap.size w v3 := Below.trans (by (repeat (first | with_reducible exact hB2 | (with_reducible refine bext ?_ _ _) | (with_reducible refine below_drewN ?_ _) | (with_reducible refine Below.drew ?_) | (with_reducible refine bal ?_ _) | (with_reducible refine bset ?_ (by first | omega | (simp <;> omega)) _)))) (hb3.mono (by first | omega | (simp [ext_size]; try omega)))
      have zw3 := hB3.size
      clear hb3
      clear zz2 zw2 hB2
      clear dAl dSt xC xF xS xN xD xL xE xG xX xL1 xL2 xL3 xM0 xM1 xM2 A1 A2 A3
      go_wp2
      go_ret2
      exact ⟨rfl, by (repeat (first | with_reducible exact hB3 | (with_reducible refine bext ?_ _ _) | (with_reducible refine below_drewN ?_ _) | (with_reducible refine Below.drew ?_) | (with_reducible refine bal ?_ _) | (with_reducible refine bset ?_ (by first | omega | (simp <;> omega)) _)))⟩
    · have h6' : tkB fr = false := by simpa using h6
      rw [if_neg h6]
      rw [h6'] at A2
      clear hE h2 h3 h4 h5 h6 h6'
      have dAl := dAl; have dSt := dSt; have xC := ext_cell; have xF := ext_frozen; have xS := ext_set; have xN := ext_drewN; have xD := ext_drew; have xL := ext_lt; have xE := ext_ne; have xG := ext_nr; have xX := ext_ext; have xL1 := ext_lt1; have xL2 := ext_lt2; have xL3 := ext_lt3; have xM0 := ext_le0; have xM1 := ext_le1; have xM2 := ext_le2
      go_enter Try.func11, Try.ntmps11
      go_wp2_with fail
      with_reducible refine (A1 _).mono ?_
      rintro e v1 ⟨rfl, hb1⟩
      have zz1 := hb1.size
      try simp [ext_size] at zz1
      have hB1 : Below w.heap.size w v1 := Below.trans (by (repeat (first | with_reducible exact b0 _ | (with_reducible refine bext ?_ _ _) | (with_reducible refine below_drewN ?_ _) | (with_reducible refine Below.drew ?_) | (with_reducible refine bal ?_ _)))) (hb1.mono (by first | omega | (simp [ext_size]; try omega)))
      have zw1 := hB1.size
      clear hb1
      go_wp2_with fail
      with_reducible refine (A2 _).mono ?_
      rintro e v2 ⟨rfl, hb2⟩
      have zz2 := hb2.size
      try simp [ext_size] at zz2
      have hB2 : Below w.heap.size w v2 := Below.trans (by (repeat (first | with_reducible exact hB1 | (with_reducible refine bext ?_ _ _) | (with_reducible refine below_drewN ?_ _) | (with_reducible refine Below.drew ?_) | (with_reducible refine bal ?_ _) | (with_reducible refine bset ?_ (by first | omega | (simp <;> omega)) _)))) (hb2.mono (by first | omega | (simp [ext_size]; try omega)))
      have zw2 := hB2.size
      clear hb2
      clear zz1 zw1 hB1
      clear dAl dSt xC xF xS xN xD xL xE xG xX xL1 xL2 xL3 xM0 xM1 xM2 A1 A2
      go_wp2
      go_ret2
      exact ⟨rfl, by (repeat (first | with_reducible exact hB2 | (with_reducible refine bext ?_ _ _) | (with_reducible refine below_drewN ?_ _) | (with_reducible refine Below.drew ?_) | (with_reducible refine bal ?_ _) | (with_reducible refine bset ?_ (by first | omega | (simp <;> omega)) _)))⟩
  · have h8 : srE s ra dec = 8 := (srE_or s ra dec).resolve_left h1
    rw [h8] at A1
    rw [if_neg h1] at *
    clear hE h1 h8
    have dAl := dAl; have dSt := dSt; have xC := ext_cell; have xF := ext_frozen; have xS := ext_set; have xN := ext_drewN; have xD := ext_drew; have xL := ext_lt; have xE := ext_ne; have xG := ext_nr; have xX := ext_ext; have xL1 := ext_lt1; have xL2 := ext_lt2; have xL3 := ext_lt3; have xM0 := ext_le0; have xM1 := ext_le1; have xM2 := ext_le2
    go_enter Try.func11, Try.ntmps11
    go_wp2_with fail
    with_reducible refine (A1 _).mono ?_
    rintro e v1 ⟨rfl, hb1⟩
    have zz1 := hb1.size
    try simp [ext_size] at zz1
    have hB1 : Below w.heap.size w v1 := Below.trans (by (repeat (first | with_reducible exact b0 _ | (with_reducible refine bext ?_ _ _) | (with_reducible refine below_drewN ?_ _) | (with_reducible refine Below.drew ?_) | (with_reducible refine bal ?_ _)))) (hb1.mono (by first | omega | (simp [ext_size]; try omega)))
    have zw1 := hB1.size
    clear hb1
    clear dAl dSt xC xF xS xN xD xL xE xG xX xL1 xL2 xL3 xM0 xM1 xM2 A1
    go_wp2
    go_ret2
    exact ⟨rfl, by (repeat (first | with_reducible exact hB1 | (with_reducible refine bext ?_ _ _) | (with_reducible refine below_drewN ?_ _) | (with_reducible refine Below.drew ?_) | (with_reducible refine bal ?_ _) | (with_reducible refine bset ?_ (by first | omega | (simp <;> omega)) _)))⟩
end Go.Proofs.Ytmjbeplcabomdaa
namespace Go.Proofs.Ytmjbeplcabomdaa
open Go.RowKit
set_option linter.unusedVariables false
set_option linter.unusedSimpArgs false
theorem tick_mid {fr st m q : Int} {i n : Nat} (hi : i < n) (hn : n ≤ 100) (h4 : ¬ st < 1) (h5 : ¬ 720 < st) (hq : st * (i : Int) = q) (f1 : -1000000 ≤ fr) (hm : m = (n : Int) - 1) (l2 : fr + st * m ≤ 1000000) : 0 ≤ q ∧ q ≤ 71280 ∧ fr + q ≤ 1000000 := by
  have a := Int.mul_nonneg (show 0 ≤ st by omega) (show (0 : Int) ≤ (i : Int) by omega)
  have b := Int.mul_le_mul_of_nonneg_left (show (i : Int) ≤ m by omega) (show 0 ≤ st by omega)
  have c := Int.mul_le_mul (show st ≤ 720 by omega) (show (i : Int) ≤ 99 by omega) (show (0 : Int) ≤ (i : Int) by omega) (show (0 : Int) ≤ 720 by omega)
  omega

set_option maxRecDepth 100000 in
set_option maxHeartbeats 3200000 in
theorem track_Path_ok (s : ByteArray) (ra dec fr st : Int) (n : Nat) (hE : paE s ra dec fr st (n : Int) = 0) (w : World) :
    Calls Try.prog 11 #[.agg #[.string s, .int .i64 ra, .int .i64 dec], .int .i64 fr, .int .i64 st, .int .i64 (n : Int)] w fun e w' => (∃ g : Nat, e = .returned (.tuple #[.slice (some ⟨g, 0, none⟩) n n, .int .i64 0]) ∧ g < w'.heap.size ∧ Cs w' g (n * 6) (pth ra dec fr st)) ∧ Below w.heap.size w w' := by
  obtain ⟨h1, h2, h3, h4, h5, h6, h7⟩ := paE_ok hE
  obtain ⟨n1, n2, n3, n4, n5⟩ := srE_ok h1
  obtain ⟨f1, f2⟩ := tk_out h6
  obtain ⟨l1, l2⟩ := tk_out h7
  have A1 := fun w => track_Check s ra dec w
  rw [h1] at A1
  have A2 := fun w => track_isTick fr w
  rw [h6] at A2
  have A3 := fun w => track_isTick (lastT fr st n) w
  rw [h7] at A3
  have A4 := fun w => track_course s ra dec (by omega) (by omega) w
  have A5 : ∀ tk : Int, -1000000 ≤ tk → tk ≤ 1000000 → ∀ (b1 b2 b3 : Nat) (w : World), _ := fun tk t1 t2 b1 b2 b3 w g1 g2 g3 c1 c2 c3 c4 c5 => track_dir ra dec tk (by omega) (by omega) b1 b2 b3 w g1 g2 g3 c1 c2 c3 c4 c5
  obtain ⟨m0, m1, m2, m3⟩ := ma_bd h2 h3
  obtain ⟨q0, q1⟩ := st_bd h4 h5 m0 m1
  have HM : Hid (∀ (i : Nat) (q : Int), i < n → st * (i : Int) = q → 0 ≤ q ∧ q ≤ 71280 ∧ fr + q ≤ 1000000) := Lib.hid (fun i q hi hq => by
    unfold lastT at l2
    exact tick_mid hi (by omega) h4 h5 hq f1 (m3 (by omega)) l2)
  have g2 : ((n : Int) < 0) = False := eq_false h2
  have g3 : (100 < (n : Int)) = False := eq_false h3
  have g4 : (st < 1) = False := eq_false h4
  have g5 : (720 < st) = False := eq_false h5
  have hn : n ≤ 100 := by omega
  have g6 : ¬ (n : Int) < 0 := h2
  have g7 : ¬ 100 < (n : Int) := h3
  unfold lastT at A3 l1 l2
  have M1 := run_max2
  have HA5 := Lib.hid A5
  have HF1 := Lib.hid f1
  clear h1 h2 h3 h4 h5 h6 h7 hE A5 m2 m3 n1 n2 n3 n4 n5
  generalize hmx : ma2 ((n : Int) - 1) 0 = mx at *
  generalize hq : st * mx = q at *
  have w1 : -9223372036854775808 ≤ fr + q := by omega
  have w2 : fr + q ≤ 9223372036854775807 := by omega
  have MK := make_dirs n (by omega)
  have dAl := dAl; have dSt := dSt; have xC := ext_cell; have xF := ext_frozen; have xS := ext_set; have xN := ext_drewN; have xD := ext_drew; have xL := ext_lt; have xE := ext_ne; have xG := ext_nr; have xX := ext_ext; have xL1 := ext_lt1; have xL2 := ext_lt2; have xL3 := ext_lt3; have xM0 := ext_le0; have xM1 := ext_le1; have xM2 := ext_le2
  go_enter Try.func11, Try.ntmps11
  go_wp2_with fail
  with_reducible refine (A1 _).mono ?_
  rintro e v1 ⟨rfl, hb1⟩
  have zz1 := hb1.size
  try simp [ext_size] at zz1
  have cc1_0 : v1.cell? ⟨w.heap.size, 0, none⟩ = some (.string s) := (hb1.cell (p := ⟨w.heap.size, 0, none⟩) (by first | omega | (simp [ext_size]; try omega))).trans (by (simp (maxDischargeDepth := 8) [go_sem, World.cell?_alloc_past, ltk2, ltk3, ltk4, ltk5, ltk6, ltk7, ltk8, ltk9, *]))
  have cc1_1 : v1.cell? ⟨w.heap.size, 1, none⟩ = some (.int .i64 ra) := (hb1.cell (p := ⟨w.heap.size, 1, none⟩) (by first | omega | (simp [ext_size]; try omega))).trans (by (simp (maxDischargeDepth := 8) [go_sem, World.cell?_alloc_past, ltk2, ltk3, ltk4, ltk5, ltk6, ltk7, ltk8, ltk9, *]))
  have cc1_2 : v1.cell? ⟨w.heap.size, 2, none⟩ = some (.int .i64 dec) := (hb1.cell (p := ⟨w.heap.size, 2, none⟩) (by first | omega | (simp [ext_size]; try omega))).trans (by (simp (maxDischargeDepth := 8) [go_sem, World.cell?_alloc_past, ltk2, ltk3, ltk4, ltk5, ltk6, ltk7, ltk8, ltk9, *]))
  have zl1_0 : w.heap.size < v1.heap.size := by omega
  have hB1 : Below w.heap.size w v1 := Below.trans (by (repeat (first | with_reducible exact b0 _ | (with_reducible refine bext ?_ _ _) | (with_reducible refine below_drewN ?_ _) | (with_reducible refine Below.drew ?_) | (with_reducible refine bal ?_ _)))) (hb1.mono (by first | omega | (simp [ext_size]; try omega)))
  have zw1 := hB1.size
  clear hb1
  go_wp2_with fail
  with_reducible refine (A2 _).mono ?_
  rintro e v2 ⟨rfl, hb2⟩
  have zz2 := hb2.size
  try simp [ext_size] at zz2
  have cc2_0 : v2.cell? ⟨w.heap.size, 0, none⟩ = some (.string s) := (hb2.cell (p := ⟨w.heap.size, 0, none⟩) (by first | omega | (simp [ext_size]; try omega))).trans (by (simp (maxDischargeDepth := 8) [go_sem, World.cell?_alloc_past, ltk2, ltk3, ltk4, ltk5, ltk6, ltk7, ltk8, ltk9, *]))
  have cc2_1 : v2.cell? ⟨w.heap.size, 1, none⟩ = some (.int .i64 ra) := (hb2.cell (p := ⟨w.heap.size, 1, none⟩) (by first | omega | (simp [ext_size]; try omega))).trans (by (simp (maxDischargeDepth := 8) [go_sem, World.cell?_alloc_past, ltk2, ltk3, ltk4, ltk5, ltk6, ltk7, ltk8, ltk9, *]))
  have cc2_2 : v2.cell? ⟨w.heap.size, 2, none⟩ = some (.int .i64 dec) := (hb2.cell (p := ⟨w.heap.size, 2, none⟩) (by first | omega | (simp [ext_size]; try omega))).trans (by (simp (maxDischargeDepth := 8) [go_sem, World.cell?_alloc_past, ltk2, ltk3, ltk4, ltk5, ltk6, ltk7, ltk8, ltk9, *]))
  have zl2_0 : w.heap.size < v2.heap.size := by omega
  have hB2 : Below w.heap.size w v2 := Below.trans (by (repeat (first | with_reducible exact hB1 | (with_reducible refine bext ?_ _ _) | (with_reducible refine below_drewN ?_ _) | (with_reducible refine Below.drew ?_) | (with_reducible refine bal ?_ _) | (with_reducible refine bset ?_ (by first | omega | (simp <;> omega)) _)))) (hb2.mono (by first | omega | (simp [ext_size]; try omega)))
  have zw2 := hB2.size
  clear hb2
  clear cc1_0 cc1_1 cc1_2 zl1_0 zz1 zw1 hB1
  go_wp2_with fail
  with_reducible refine (A3 _).mono ?_
  rintro e v3 ⟨rfl, hb3⟩
  have zz3 := hb3.size
  try simp [ext_size] at zz3
  have cc3_0 : v3.cell? ⟨w.heap.size, 0, none⟩ = some (.string s) := (hb3.cell (p := ⟨w.heap.size, 0, none⟩) (by first | omega | (simp [ext_size]; try omega))).trans (by (simp (maxDischargeDepth := 8) [go_sem, World.cell?_alloc_past, ltk2, ltk3, ltk4, ltk5, ltk6, ltk7, ltk8, ltk9, *]))
  have cc3_1 : v3.cell? ⟨w.heap.size, 1, none⟩ = some (.int .i64 ra) := (hb3.cell (p := ⟨w.heap.size, 1, none⟩) (by first | omega | (simp [ext_size]; try omega))).trans (by (simp (maxDischargeDepth := 8) [go_sem, World.cell?_alloc_past, ltk2, ltk3, ltk4, ltk5, ltk6, ltk7, ltk8, ltk9, *]))
  have cc3_2 : v3.cell? ⟨w.heap.size, 2, none⟩ = some (.int .i64 dec) := (hb3.cell (p := ⟨w.heap.size, 2, none⟩) (by first | omega | (simp [ext_size]; try omega))).trans (by (simp (maxDischargeDepth := 8) [go_sem, World.cell?_alloc_past, ltk2, ltk3, ltk4, ltk5, ltk6, ltk7, ltk8, ltk9, *]))
  have zl3_0 : w.heap.size < v3.heap.size := by omega
  have hB3 : Below w.heap.size w v3 := Below.trans (by (repeat (first | with_reducible exact hB2 | (with_reducible refine bext ?_ _ _) | (with_reducible refine below_drewN ?_ _) | (with_reducible refine Below.drew ?_) | (with_reducible refine bal ?_ _) | (with_reducible refine bset ?_ (by first | omega | (simp <;> omega)) _)))) (hb3.mono (by first | omega | (simp [ext_size]; try omega)))
  have zw3 := hB3.size
  clear hb3
  clear cc2_0 cc2_1 cc2_2 zl2_0 zz2 zw2 hB2
  go_wp2_with fail
  with_reducible refine (A4 _).mono ?_
  rintro e v4 ⟨⟨b1, b2, b3, rfl, k1, k2, k3, c1, c2, c3, c4, c5⟩, hb4⟩
  have zz4 := hb4.size
  have hB4 : Below w.heap.size w v4 := Below.trans (by (repeat (first | with_reducible exact hB3 | (with_reducible refine bext ?_ _ _) | (with_reducible refine below_drewN ?_ _) | (with_reducible refine Below.drew ?_) | (with_reducible refine bal ?_ _) | (with_reducible refine bset ?_ (by first | omega | (simp <;> omega)) _)))) (hb4.mono (by first | omega | (simp [ext_size]; try omega)))
  have zw4 := hB4.size
  clear hb4 hB3 cc3_0 cc3_1 cc3_2 zl3_0 zz3 zw3
  clear dAl dSt xC xF xS xN xD xL xE xG xX xL1 xL2 xL3 xM0 xM1 xM2 A1 A2 A3 A4 M1
  go_wp2_with fail
  have cR0 := made_cs v4 n
  have fR0 := made_fs v4 n
  go_loopg [52] n (fun kk s52 wr => ∃ i : Nat, kk = n - i ∧ s52 = .int .i64 i ∧ i ≤ n ∧ Cs wr v4.heap.size (n * 6) (pthU ra dec fr st i) ∧ Fs wr v4.heap.size (n * 6) ∧ v4.heap.size < wr.heap.size ∧ Below v4.heap.size v4 wr)
  case atStart =>
    refine ⟨0, rfl, rfl, by omega, cs_eq cR0 (fun o ho => by unfold pthU; rw [if_neg (by omega)]), fR0, by simp, by (repeat (first | with_reducible exact b0 _ | (with_reducible refine bext ?_ _ _) | (with_reducible refine below_drewN ?_ _) | (with_reducible refine Below.drew ?_) | (with_reducible refine bal ?_ _)))⟩
  case round =>
    obtain ⟨i, rfl, rfl, him, cR, fR, zr, hbr⟩ := hrel
    clear cR0 fR0
    have hbw : Below w.heap.size w wr := Below.trans hB4 (hbr.mono zw4)
    by_cases hi : i < n
    · have zi : ((i : Int) < (n : Int)) = True := by simp; omega
      obtain ⟨p, hp⟩ : ∃ p, st * (i : Int) = p := ⟨_, rfl⟩
      obtain ⟨p0, p1, p2⟩ := HM.out i p hi hp
      have f1 := HF1.out
      have u1 : wr.cell? ⟨b1, 1, none⟩ = some (.int .i64 ra) := (hbr.cell (p := ⟨b1, 1, none⟩) k1).trans c1
      have u2 : wr.cell? ⟨b2, 0, none⟩ = some (.int .i64 (cL dec)) := (hbr.cell (p := ⟨b2, 0, none⟩) k2).trans c2
      have u3 : wr.cell? ⟨b2, 1, none⟩ = some (.int .i64 (cH dec)) := (hbr.cell (p := ⟨b2, 1, none⟩) k2).trans c3
      have u4 : wr.cell? ⟨b3, 0, none⟩ = some (.int .i64 (sL dec)) := (hbr.cell (p := ⟨b3, 0, none⟩) k3).trans c4
      have u5 : wr.cell? ⟨b3, 1, none⟩ = some (.int .i64 (sH dec)) := (hbr.cell (p := ⟨b3, 1, none⟩) k3).trans c5
      have B5 := HA5.out (fr + p) (by omega) p2 b1 b2 b3 wr (Nat.lt_of_lt_of_le k1 hbr.size) (Nat.lt_of_lt_of_le k2 hbr.size) (Nat.lt_of_lt_of_le k3 hbr.size) u1 u2 u3 u4 u5
      have y0 : pth ra dec fr st (i * 6) = dirC dec (ra - (fr + st * (i : Int))) 0 := pth_at ra dec fr st i 0 (by omega)
      have y1 : pth ra dec fr st (i * 6 + 1) = dirC dec (ra - (fr + st * (i : Int))) 1 := pth_at ra dec fr st i 1 (by omega)
      have y2 : pth ra dec fr st (i * 6 + 2) = dirC dec (ra - (fr + st * (i : Int))) 2 := pth_at ra dec fr st i 2 (by omega)
      have y3 : pth ra dec fr st (i * 6 + 3) = dirC dec (ra - (fr + st * (i : Int))) 3 := pth_at ra dec fr st i 3 (by omega)
      have y4 : pth ra dec fr st (i * 6 + 4) = dirC dec (ra - (fr + st * (i : Int))) 4 := pth_at ra dec fr st i 4 (by omega)
      have y5 : pth ra dec fr st (i * 6 + 5) = dirC dec (ra - (fr + st * (i : Int))) 5 := pth_at ra dec fr st i 5 (by omega)
      rw [hp] at y0 y1 y2 y3 y4 y5
      dsimp only [dirC] at y0 y1 y2 y3 y4 y5
      generalize dxL dec (ra - (fr + p)) = x0 at *
      generalize dxH dec (ra - (fr + p)) = x1 at *
      generalize dyL dec (ra - (fr + p)) = x2 at *
      generalize dyH dec (ra - (fr + p)) = x3 at *
      generalize sL dec = x4 at *
      generalize sH dec = x5 at *
      have Y0 := Lib.hid y0
      have Y1 := Lib.hid y1
      have Y2 := Lib.hid y2
      have Y3 := Lib.hid y3
      have Y4 := Lib.hid y4
      have Y5 := Lib.hid y5
      have HI := Lib.hid hi
      have i40 : i < 1000 := by omega
      clear u1 u2 u3 u4 u5 y0 y1 y2 y3 y4 y5
      have CR := Lib.hid cR
      have FR := Lib.hid fR
      have HP := Lib.hid hp
      have v1 : -9223372036854775808 ≤ fr + p := by omega
      have v2 : fr + p ≤ 9223372036854775807 := by omega
      clear hi cR fR him
      go_wp2_with fail
      with_reducible refine B5.mono ?_
      rintro e wv ⟨rfl, hbv⟩
      have cv := cs_below CR.out hbv zr
      have fv := fs_below FR.out hbv zr
      have zv : v4.heap.size < wv.heap.size := Nat.lt_of_lt_of_le zr hbv.size
      have hbv4 : Below v4.heap.size v4 wv := Below.trans hbr (hbv.mono (by omega))
      have hi := HI.out
      have cq0 := cv (i * 6) (by omega)
      have fq0 := fv (i * 6) (by omega)
      rw [pthU, if_neg (by omega)] at cq0
      have cq1 := cv (i * 6 + 1) (by omega)
      have fq1 := fv (i * 6 + 1) (by omega)
      rw [pthU, if_neg (by omega)] at cq1
      have cq2 := cv (i * 6 + 2) (by omega)
      have fq2 := fv (i * 6 + 2) (by omega)
      rw [pthU, if_neg (by omega)] at cq2
      have cq3 := cv (i * 6 + 3) (by omega)
      have fq3 := fv (i * 6 + 3) (by omega)
      rw [pthU, if_neg (by omega)] at cq3
      have cq4 := cv (i * 6 + 4) (by omega)
      have fq4 := fv (i * 6 + 4) (by omega)
      rw [pthU, if_neg (by omega)] at cq4
      have cq5 := cv (i * 6 + 5) (by omega)
      have fq5 := fv (i * 6 + 5) (by omega)
      rw [pthU, if_neg (by omega)] at cq5
      have CV := Lib.hid cv
      have FV := Lib.hid fv
      clear cv fv B5 hbv hi
      go_wp2
      go_roundg (n - (i + 1))
      case measure => have := HI.out; omega
      case rel =>
        have hi := HI.out
        refine ⟨i + 1, rfl, by go_num, by omega, ?_, by (repeat (first | with_reducible exact FV.out | with_reducible refine fs_drewN ?_ | with_reducible refine fs_drew ?_ | with_reducible refine fs_ext ?_ (by first | omega | (simp [ext_size, World.setCell] <;> omega)) _ _ | with_reducible refine fs_alloc _ ?_ (by first | omega | (simp [ext_size, World.setCell] <;> omega)) | with_reducible refine fs_set _ ?_)), by (simp; try omega), by (repeat (first | with_reducible exact hbv4 | (with_reducible refine bextm ?_ (by first | omega | (simp [ext_size, World.setCell] <;> omega)) _ _) | (with_reducible refine below_drewN ?_ _) | (with_reducible refine Below.drew ?_) | (with_reducible refine Below.alloc ?_ (by first | omega | (simp [ext_size, World.setCell] <;> omega)) _) | (with_reducible refine Below.setCell ?_ (by first | omega | (simp [ext_size, World.setCell] <;> omega)) _)))⟩
        refine cells_up CV.out (by omega) ?_ ?_ ?_ ?_ ?_ ?_ ?_
        · rw [pthU, if_pos (by omega)]; exact Y0.out
        · rw [pthU, if_pos (by omega)]; exact Y1.out
        · rw [pthU, if_pos (by omega)]; exact Y2.out
        · rw [pthU, if_pos (by omega)]; exact Y3.out
        · rw [pthU, if_pos (by omega)]; exact Y4.out
        · rw [pthU, if_pos (by omega)]; exact Y5.out
        · intro o ho hne
          unfold pthU
          by_cases c : o < i * 6
          · rw [if_pos c, if_pos (by omega)]
          · rw [if_neg c, if_neg (by omega)]
    · have zi : ((i : Int) < (n : Int)) = False := by simp; omega
      have cE : Cs wr v4.heap.size (n * 6) (pth ra dec fr st) := cs_eq cR (fun o ho => by unfold pthU; rw [if_pos (by omega)])
      have CE := Lib.hid cE
      clear cE cR fR c1 c2 c3 c4 c5 k1 k2 k3
      go_wp2
      go_ret2
      exact ⟨⟨_, rfl, zr, CE.out⟩, hbw⟩
end Go.Proofs.Ytmjbeplcabomdaa
