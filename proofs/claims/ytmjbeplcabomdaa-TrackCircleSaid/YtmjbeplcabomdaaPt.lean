/-
  TrackCircle, walked.
-/
import Derived.Test.YtmjbeplcabomdaaPm
import Derived.Test.YtmjbeplcabomdaaPq
namespace Go.Proofs.Ytmjbeplcabomdaa
open Go.RowKit
set_option linter.unusedVariables false
set_option linter.unusedSimpArgs false
theorem ftB_out {s : ByteArray} {ra dec t : Int} (h : ftB s ra dec t = true) : s.size ≤ 200 ∧ srE s ra dec = 0 ∧ -900000 ≤ t ∧ t ≤ 900000 := by simpa [ftB] using h
theorem paE_of {s : ByteArray} {ra dec fr st many : Int} (h1 : srE s ra dec = 0) (h2 : ¬ many < 0) (h3 : ¬ 100 < many) (h4 : ¬ st < 1) (h5 : ¬ 720 < st) (h6 : tkB fr = true) (h7 : tkB (lastT fr st many) = true) : paE s ra dec fr st many = 0 := by
  rw [paE, if_pos h1, if_neg h2, if_neg h3, if_neg h4, if_neg h5, if_pos h6, if_pos h7]
theorem tk_in {t : Int} (h1 : -1000000 ≤ t) (h2 : t ≤ 1000000) : tkB t = true := by simp [tkB]; omega

set_option maxRecDepth 100000 in
set_option maxHeartbeats 3200000 in
theorem circle6_out (s : ByteArray) (ra dec t : Int) (hf : ftB s ra dec t = false) (w : World) :
    Calls Try.prog 5 #[.agg #[.string s, .int .i64 ra, .int .i64 dec], .int .i64 t] w fun x w' => x = .returned (.bool true) ∧ Below w.heap.size w w' := by
  have A1 := fun w => law6_fit s ra dec t w
  rw [hf] at A1
  have A2 := fun w => law6_alive w
  clear hf
  have dAl := dAl; have dSt := dSt; have xC := ext_cell; have xF := ext_frozen; have xS := ext_set; have xN := ext_drewN; have xD := ext_drew; have xL := ext_lt; have xE := ext_ne; have xG := ext_nr; have xX := ext_ext; have xL1 := ext_lt1; have xL2 := ext_lt2; have xL3 := ext_lt3; have xM0 := ext_le0; have xM1 := ext_le1; have xM2 := ext_le2
  go_enter Try.func5, Try.ntmps5
  go_wp2_with fail
  refine (A1 _).mono ?_
  rintro e w1c ⟨rfl, hb1c⟩
  obtain ⟨l1c, d1c, rfl⟩ := toExt hb1c
  clear hb1c
  go_wp2_with fail
  refine (A2 _).mono ?_
  rintro e w2c ⟨rfl, hb2c⟩
  obtain ⟨l2c, d2c, rfl⟩ := toExt hb2c
  clear hb2c
  go_wp2
  go_ret
  exact ⟨rfl, by (repeat (first | with_reducible exact b0 _ | (with_reducible refine bext ?_ _ _) | (with_reducible refine below_drewN ?_ _) | (with_reducible refine Below.drew ?_) | (with_reducible refine bal ?_ _)))⟩

set_option maxRecDepth 100000 in
set_option maxHeartbeats 6400000 in
theorem circle6_main (s : ByteArray) (ra dec t : Int) (hf : ftB s ra dec t = true) (w : World) :
    Calls Try.prog 5 #[.agg #[.string s, .int .i64 ra, .int .i64 dec], .int .i64 t] w fun x w' => x = .returned (.bool true) ∧ Below w.heap.size w w' := by
  obtain ⟨h0, h1, t1, t2⟩ := ftB_out hf
  have AL := fun w => law6_alive w
  have A0 := fun w => law6_fit s ra dec t w
  rw [hf] at A0
  have A1 := fun w => track_At_ok s ra dec t h1 (tk_in (by omega) (by omega)) w
  obtain ⟨L, H, hq, lo, hi, wd⟩ := self_dot dec (ra - t)
  obtain ⟨_, _, u1, u2⟩ := d_unit dec (ra - t)
  have u3 := (c_unit dec).2
  have A2 := fun w => track_Dot (dxL dec (ra - t)) (dxH dec (ra - t)) (dyL dec (ra - t)) (dyH dec (ra - t)) (sL dec) (sH dec) (dxL dec (ra - t)) (dxH dec (ra - t)) (dyL dec (ra - t)) (dyH dec (ra - t)) (sL dec) (sH dec) L H 0
    ⟨sp_of u1.1 (by have := u1.2.1; omega) (by have := u1.2.2; omega), sp_of u2.1 (by have := u2.2.1; omega) (by have := u2.2.2; omega), sp_of u3.1 (by have := u3.2.1; omega) (by have := u3.2.2; omega)⟩
    ⟨sp_of u1.1 (by have := u1.2.1; omega) (by have := u1.2.2; omega), sp_of u2.1 (by have := u2.2.1; omega) (by have := u2.2.2; omega), sp_of u3.1 (by have := u3.2.1; omega) (by have := u3.2.2; omega)⟩ hq w
  have A3 := fun w => track_At_ok s ra dec (t + 720) h1 (tk_in (by omega) (by omega)) w
  have A4 := fun w => track_At_ok s ra dec (t + 180) h1 (tk_in (by omega) (by omega)) w
  have hp : paE s ra dec t 180 ((5 : Nat) : Int) = 0 := paE_of h1 (by omega) (by omega) (by omega) (by omega) (tk_in (by omega) (by omega)) (by
    have e : lastT t 180 ((5 : Nat) : Int) = t + 720 := by unfold lastT ma2; omega
    rw [e]; exact tk_in (by omega) (by omega))
  have A5 := fun w => track_Path_ok s ra dec t 180 5 hp w
  rw [show ((5 : Nat) : Int) = 5 from rfl] at A5
  have N1 := fun w => ref5_Neg (dxL dec (ra - t)) (dxH dec (ra - t)) (by have := u1.1; have := u1.2.1; omega) (by have := u1.1; have := u1.2.2; omega) (by have := u1.1; have := u1.2.1; omega) (by have := u1.1; have := u1.2.2; omega) w
  have N2 := fun w => ref5_Neg (dyL dec (ra - t)) (dyH dec (ra - t)) (by have := u2.1; have := u2.2.1; omega) (by have := u2.1; have := u2.2.2; omega) (by have := u2.1; have := u2.2.1; omega) (by have := u2.1; have := u2.2.2; omega) w
  obtain ⟨r1, r2, r3, r4⟩ := t720 dec (ra - t)
  obtain ⟨r5, r6, r7, r8⟩ := t180 dec (ra - t)
  obtain ⟨r9, ra', rb, rc⟩ := t360 dec (ra - t)
  rw [show ra - (t + 720) = ra - t - 720 by omega, r1, r2, r3, r4] at A3
  rw [show ra - (t + 180) = ra - t - 180 by omega, r5, r6, r7, r8] at A4
  have P0 : pth ra dec t 180 0 = dxL dec (ra - t) := by
    have e := pth_at ra dec t 180 0 0 (by omega)
    rw [show ra - (t + 180 * ((0 : Nat) : Int)) = ra - t by omega] at e
    rw [show 0 * 6 + 0 = 0 from rfl] at e
    rw [e]
    exact rfl
  have P1 : pth ra dec t 180 1 = dxH dec (ra - t) := by
    have e := pth_at ra dec t 180 0 1 (by omega)
    rw [show ra - (t + 180 * ((0 : Nat) : Int)) = ra - t by omega] at e
    rw [show 0 * 6 + 1 = 1 from rfl] at e
    rw [e]
    exact rfl
  have P2 : pth ra dec t 180 2 = dyL dec (ra - t) := by
    have e := pth_at ra dec t 180 0 2 (by omega)
    rw [show ra - (t + 180 * ((0 : Nat) : Int)) = ra - t by omega] at e
    rw [show 0 * 6 + 2 = 2 from rfl] at e
    rw [e]
    exact rfl
  have P3 : pth ra dec t 180 3 = dyH dec (ra - t) := by
    have e := pth_at ra dec t 180 0 3 (by omega)
    rw [show ra - (t + 180 * ((0 : Nat) : Int)) = ra - t by omega] at e
    rw [show 0 * 6 + 3 = 3 from rfl] at e
    rw [e]
    exact rfl
  have P4 : pth ra dec t 180 4 = sL dec := by
    have e := pth_at ra dec t 180 0 4 (by omega)
    rw [show ra - (t + 180 * ((0 : Nat) : Int)) = ra - t by omega] at e
    rw [show 0 * 6 + 4 = 4 from rfl] at e
    rw [e]
    exact rfl
  have P5 : pth ra dec t 180 5 = sH dec := by
    have e := pth_at ra dec t 180 0 5 (by omega)
    rw [show ra - (t + 180 * ((0 : Nat) : Int)) = ra - t by omega] at e
    rw [show 0 * 6 + 5 = 5 from rfl] at e
    rw [e]
    exact rfl
  have P6 : pth ra dec t 180 6 = dyL dec (ra - t) := by
    have e := pth_at ra dec t 180 1 0 (by omega)
    rw [show ra - (t + 180 * ((1 : Nat) : Int)) = ra - t - 180 by omega] at e
    rw [show 1 * 6 + 0 = 6 from rfl] at e
    rw [e]
    exact r5
  have P7 : pth ra dec t 180 7 = dyH dec (ra - t) := by
    have e := pth_at ra dec t 180 1 1 (by omega)
    rw [show ra - (t + 180 * ((1 : Nat) : Int)) = ra - t - 180 by omega] at e
    rw [show 1 * 6 + 1 = 7 from rfl] at e
    rw [e]
    exact r6
  have P8 : pth ra dec t 180 8 = -dxH dec (ra - t) := by
    have e := pth_at ra dec t 180 1 2 (by omega)
    rw [show ra - (t + 180 * ((1 : Nat) : Int)) = ra - t - 180 by omega] at e
    rw [show 1 * 6 + 2 = 8 from rfl] at e
    rw [e]
    exact r7
  have P9 : pth ra dec t 180 9 = -dxL dec (ra - t) := by
    have e := pth_at ra dec t 180 1 3 (by omega)
    rw [show ra - (t + 180 * ((1 : Nat) : Int)) = ra - t - 180 by omega] at e
    rw [show 1 * 6 + 3 = 9 from rfl] at e
    rw [e]
    exact r8
  have P10 : pth ra dec t 180 10 = sL dec := by
    have e := pth_at ra dec t 180 1 4 (by omega)
    rw [show ra - (t + 180 * ((1 : Nat) : Int)) = ra - t - 180 by omega] at e
    rw [show 1 * 6 + 4 = 10 from rfl] at e
    rw [e]
    exact rfl
  have P11 : pth ra dec t 180 11 = sH dec := by
    have e := pth_at ra dec t 180 1 5 (by omega)
    rw [show ra - (t + 180 * ((1 : Nat) : Int)) = ra - t - 180 by omega] at e
    rw [show 1 * 6 + 5 = 11 from rfl] at e
    rw [e]
    exact rfl
  have P12 : pth ra dec t 180 12 = -dxH dec (ra - t) := by
    have e := pth_at ra dec t 180 2 0 (by omega)
    rw [show ra - (t + 180 * ((2 : Nat) : Int)) = ra - t - 360 by omega] at e
    rw [show 2 * 6 + 0 = 12 from rfl] at e
    rw [e]
    exact r9
  have P13 : pth ra dec t 180 13 = -dxL dec (ra - t) := by
    have e := pth_at ra dec t 180 2 1 (by omega)
    rw [show ra - (t + 180 * ((2 : Nat) : Int)) = ra - t - 360 by omega] at e
    rw [show 2 * 6 + 1 = 13 from rfl] at e
    rw [e]
    exact ra'
  have P14 : pth ra dec t 180 14 = -dyH dec (ra - t) := by
    have e := pth_at ra dec t 180 2 2 (by omega)
    rw [show ra - (t + 180 * ((2 : Nat) : Int)) = ra - t - 360 by omega] at e
    rw [show 2 * 6 + 2 = 14 from rfl] at e
    rw [e]
    exact rb
  have P15 : pth ra dec t 180 15 = -dyL dec (ra - t) := by
    have e := pth_at ra dec t 180 2 3 (by omega)
    rw [show ra - (t + 180 * ((2 : Nat) : Int)) = ra - t - 360 by omega] at e
    rw [show 2 * 6 + 3 = 15 from rfl] at e
    rw [e]
    exact rc
  have P16 : pth ra dec t 180 16 = sL dec := by
    have e := pth_at ra dec t 180 2 4 (by omega)
    rw [show ra - (t + 180 * ((2 : Nat) : Int)) = ra - t - 360 by omega] at e
    rw [show 2 * 6 + 4 = 16 from rfl] at e
    rw [e]
    exact rfl
  have P17 : pth ra dec t 180 17 = sH dec := by
    have e := pth_at ra dec t 180 2 5 (by omega)
    rw [show ra - (t + 180 * ((2 : Nat) : Int)) = ra - t - 360 by omega] at e
    rw [show 2 * 6 + 5 = 17 from rfl] at e
    rw [e]
    exact rfl
  have P24 : pth ra dec t 180 24 = dxL dec (ra - t) := by
    have e := pth_at ra dec t 180 4 0 (by omega)
    rw [show ra - (t + 180 * ((4 : Nat) : Int)) = ra - t - 720 by omega] at e
    rw [show 4 * 6 + 0 = 24 from rfl] at e
    rw [e]
    exact r1
  have P25 : pth ra dec t 180 25 = dxH dec (ra - t) := by
    have e := pth_at ra dec t 180 4 1 (by omega)
    rw [show ra - (t + 180 * ((4 : Nat) : Int)) = ra - t - 720 by omega] at e
    rw [show 4 * 6 + 1 = 25 from rfl] at e
    rw [e]
    exact r2
  have P26 : pth ra dec t 180 26 = dyL dec (ra - t) := by
    have e := pth_at ra dec t 180 4 2 (by omega)
    rw [show ra - (t + 180 * ((4 : Nat) : Int)) = ra - t - 720 by omega] at e
    rw [show 4 * 6 + 2 = 26 from rfl] at e
    rw [e]
    exact r3
  have P27 : pth ra dec t 180 27 = dyH dec (ra - t) := by
    have e := pth_at ra dec t 180 4 3 (by omega)
    rw [show ra - (t + 180 * ((4 : Nat) : Int)) = ra - t - 720 by omega] at e
    rw [show 4 * 6 + 3 = 27 from rfl] at e
    rw [e]
    exact r4
  have P28 : pth ra dec t 180 28 = sL dec := by
    have e := pth_at ra dec t 180 4 4 (by omega)
    rw [show ra - (t + 180 * ((4 : Nat) : Int)) = ra - t - 720 by omega] at e
    rw [show 4 * 6 + 4 = 28 from rfl] at e
    rw [e]
    exact rfl
  have P29 : pth ra dec t 180 29 = sH dec := by
    have e := pth_at ra dec t 180 4 5 (by omega)
    rw [show ra - (t + 180 * ((4 : Nat) : Int)) = ra - t - 720 by omega] at e
    rw [show 4 * 6 + 5 = 29 from rfl] at e
    rw [e]
    exact rfl
  clear r1 r2 r3 r4 r5 r6 r7 r8 r9 ra' rb rc hq hp h0 h1 hf
  obtain ⟨a1, a2, a3⟩ := u1
  obtain ⟨b1, b2, b3⟩ := u2
  clear u3
  generalize dxL dec (ra - t) = x1 at *
  generalize dxH dec (ra - t) = x2 at *
  generalize dyL dec (ra - t) = y1 at *
  generalize dyH dec (ra - t) = y2 at *
  generalize sL dec = z1 at *
  generalize sH dec = z2 at *
  have w1 : -9223372036854775808 ≤ t + 720 := by omega
  have w2 : t + 720 ≤ 9223372036854775807 := by omega
  have w3 : -9223372036854775808 ≤ t + 180 := by omega
  have w4 : t + 180 ≤ 9223372036854775807 := by omega
  have HP0 := Lib.hid P0
  have HP1 := Lib.hid P1
  have HP2 := Lib.hid P2
  have HP3 := Lib.hid P3
  have HP4 := Lib.hid P4
  have HP5 := Lib.hid P5
  have HP6 := Lib.hid P6
  have HP7 := Lib.hid P7
  have HP8 := Lib.hid P8
  have HP9 := Lib.hid P9
  have HP10 := Lib.hid P10
  have HP11 := Lib.hid P11
  have HP12 := Lib.hid P12
  have HP13 := Lib.hid P13
  have HP14 := Lib.hid P14
  have HP15 := Lib.hid P15
  have HP16 := Lib.hid P16
  have HP17 := Lib.hid P17
  have HP24 := Lib.hid P24
  have HP25 := Lib.hid P25
  have HP26 := Lib.hid P26
  have HP27 := Lib.hid P27
  have HP28 := Lib.hid P28
  have HP29 := Lib.hid P29
  clear P0 P1 P2 P3 P4 P5 P6 P7 P8 P9 P10 P11 P12 P13 P14 P15 P16 P17 P24 P25 P26 P27 P28 P29
  have dAl := dAl; have dSt := dSt; have xC := ext_cell; have xF := ext_frozen; have xS := ext_set; have xN := ext_drewN; have xD := ext_drew; have xL := ext_lt; have xE := ext_ne; have xG := ext_nr; have xX := ext_ext; have xL1 := ext_lt1; have xL2 := ext_lt2; have xL3 := ext_lt3; have xM0 := ext_le0; have xM1 := ext_le1; have xM2 := ext_le2
  go_enter Try.func5, Try.ntmps5
  go_wp2_with fail
  with_reducible refine (A0 _).mono ?_
  rintro e v1 ⟨rfl, hb1⟩
  have zz1 := hb1.size
  try simp [ext_size] at zz1
  have cc1_0 : v1.cell? ⟨w.heap.size, 0, none⟩ = some (.string s) := (hb1.cell (p := ⟨w.heap.size, 0, none⟩) (by first | omega | (simp [ext_size]; try omega))).trans (by (simp (maxDischargeDepth := 8) [go_sem, World.cell?_alloc_past, ltk2, ltk3, ltk4, ltk5, ltk6, ltk7, ltk8, ltk9, *]))
  have cc1_1 : v1.cell? ⟨w.heap.size, 1, none⟩ = some (.int .i64 ra) := (hb1.cell (p := ⟨w.heap.size, 1, none⟩) (by first | omega | (simp [ext_size]; try omega))).trans (by (simp (maxDischargeDepth := 8) [go_sem, World.cell?_alloc_past, ltk2, ltk3, ltk4, ltk5, ltk6, ltk7, ltk8, ltk9, *]))
  have cc1_2 : v1.cell? ⟨w.heap.size, 2, none⟩ = some (.int .i64 dec) := (hb1.cell (p := ⟨w.heap.size, 2, none⟩) (by first | omega | (simp [ext_size]; try omega))).trans (by (simp (maxDischargeDepth := 8) [go_sem, World.cell?_alloc_past, ltk2, ltk3, ltk4, ltk5, ltk6, ltk7, ltk8, ltk9, *]))
  have zl1_0 : w.heap.size < v1.heap.size := by omega
  have hB1 : Below w.heap.size w v1 := Below.trans (by (repeat (first | with_reducible exact b0 _ | (with_reducible refine bext ?_ _ _) | (with_reducible refine below_drewN ?_ _) | (with_reducible refine Below.drew ?_) | (with_reducible refine bal ?_ _)))) (hb1.mono (by first | omega | (simp [ext_size]; try omega)))
  have zw1 := hB1.size
  clear hb1
  go_wp2_with fail
  with_reducible refine (A1 _).mono ?_
  rintro e v2 ⟨rfl, hb2⟩
  have zz2 := hb2.size
  try simp [ext_size] at zz2
  have cc2_0 : v2.cell? ⟨w.heap.size, 0, none⟩ = some (.string s) := (hb2.cell (p := ⟨w.heap.size, 0, none⟩) (by first | omega | (simp [ext_size]; try omega))).trans (by (simp (maxDischargeDepth := 8) [go_sem, World.cell?_alloc_past, ltk2, ltk3, ltk4, ltk5, ltk6, ltk7, ltk8, ltk9, *]))
  have cc2_1 : v2.cell? ⟨w.heap.size, 1, none⟩ = some (.int .i64 ra) := (hb2.cell (p := ⟨w.heap.size, 1, none⟩) (by first | omega | (simp [ext_size]; try omega))).trans (by (simp (maxDischargeDepth := 8) [go_sem, World.cell?_alloc_past, ltk2, ltk3, ltk4, ltk5, ltk6, ltk7, ltk8, ltk9, *]))
  have cc2_2 : v2.cell? ⟨w.heap.size, 2, none⟩ = some (.int .i64 dec) := (hb2.cell (p := ⟨w.heap.size, 2, none⟩) (by first | omega | (simp [ext_size]; try omega))).trans (by (simp (maxDischargeDepth := 8) [go_sem, World.cell?_alloc_past, ltk2, ltk3, ltk4, ltk5, ltk6, ltk7, ltk8, ltk9, *]))
  have zl2_0 : w.heap.size < v2.heap.size := by omega
  have hB2 : Below w.heap.size w v2 := Below.trans (by (repeat (first | with_reducible exact hB1 | (with_reducible refine bext ?_ _ _) | (with_reducible refine below_drewN ?_ _) | (with_reducible refine Below.drew ?_) | (with_reducible refine bal ?_ _) | (with_reducible refine bset ?_ (by first | omega | (simp <;> omega)) _)))) (hb2.mono (by first | omega | (simp [ext_size]; try omega)))
  have zw2 := hB2.size
  clear hb2
  clear cc1_0 cc1_1 cc1_2 zl1_0 zz1 zw1 hB1
  go_wp2_with fail
  with_reducible refine (A2 _).mono ?_
  rintro e v3 ⟨rfl, hb3⟩
  have zz3 := hb3.size
  try simp [ext_size] at zz3
  have cc3_0 : v3.cell? ⟨w.heap.size, 0, none⟩ = some (.string s) := (hb3.cell (p := ⟨w.heap.size, 0, none⟩) (by first | omega | (simp [ext_size]; try omega))).trans (by (simp (maxDischargeDepth := 8) [go_sem, World.cell?_alloc_past, ltk2, ltk3, ltk4, ltk5, ltk6, ltk7, ltk8, ltk9, *]))
  have cc3_1 : v3.cell? ⟨w.heap.size, 1, none⟩ = some (.int .i64 ra) := (hb3.cell (p := ⟨w.heap.size, 1, none⟩) (by first | omega | (simp [ext_size]; try omega))).trans (by (simp (maxDischargeDepth := 8) [go_sem, World.cell?_alloc_past, ltk2, ltk3, ltk4, ltk5, ltk6, ltk7, ltk8, ltk9, *]))
  have cc3_2 : v3.cell? ⟨w.heap.size, 2, none⟩ = some (.int .i64 dec) := (hb3.cell (p := ⟨w.heap.size, 2, none⟩) (by first | omega | (simp [ext_size]; try omega))).trans (by (simp (maxDischargeDepth := 8) [go_sem, World.cell?_alloc_past, ltk2, ltk3, ltk4, ltk5, ltk6, ltk7, ltk8, ltk9, *]))
  have cc3_3 : v3.cell? ⟨v2.heap.size, 0, none⟩ = some (.int .i64 x1) := (hb3.cell (p := ⟨v2.heap.size, 0, none⟩) (by first | omega | (simp [ext_size]; try omega))).trans (by (simp (maxDischargeDepth := 8) [go_sem, World.cell?_alloc_past, ltk2, ltk3, ltk4, ltk5, ltk6, ltk7, ltk8, ltk9, *]))
  have cc3_4 : v3.cell? ⟨v2.heap.size, 1, none⟩ = some (.int .i64 x2) := (hb3.cell (p := ⟨v2.heap.size, 1, none⟩) (by first | omega | (simp [ext_size]; try omega))).trans (by (simp (maxDischargeDepth := 8) [go_sem, World.cell?_alloc_past, ltk2, ltk3, ltk4, ltk5, ltk6, ltk7, ltk8, ltk9, *]))
  have cc3_5 : v3.cell? ⟨v2.heap.size, 2, none⟩ = some (.int .i64 y1) := (hb3.cell (p := ⟨v2.heap.size, 2, none⟩) (by first | omega | (simp [ext_size]; try omega))).trans (by (simp (maxDischargeDepth := 8) [go_sem, World.cell?_alloc_past, ltk2, ltk3, ltk4, ltk5, ltk6, ltk7, ltk8, ltk9, *]))
  have cc3_6 : v3.cell? ⟨v2.heap.size, 3, none⟩ = some (.int .i64 y2) := (hb3.cell (p := ⟨v2.heap.size, 3, none⟩) (by first | omega | (simp [ext_size]; try omega))).trans (by (simp (maxDischargeDepth := 8) [go_sem, World.cell?_alloc_past, ltk2, ltk3, ltk4, ltk5, ltk6, ltk7, ltk8, ltk9, *]))
  have cc3_7 : v3.cell? ⟨v2.heap.size, 4, none⟩ = some (.int .i64 z1) := (hb3.cell (p := ⟨v2.heap.size, 4, none⟩) (by first | omega | (simp [ext_size]; try omega))).trans (by (simp (maxDischargeDepth := 8) [go_sem, World.cell?_alloc_past, ltk2, ltk3, ltk4, ltk5, ltk6, ltk7, ltk8, ltk9, *]))
  have cc3_8 : v3.cell? ⟨v2.heap.size, 5, none⟩ = some (.int .i64 z2) := (hb3.cell (p := ⟨v2.heap.size, 5, none⟩) (by first | omega | (simp [ext_size]; try omega))).trans (by (simp (maxDischargeDepth := 8) [go_sem, World.cell?_alloc_past, ltk2, ltk3, ltk4, ltk5, ltk6, ltk7, ltk8, ltk9, *]))
  have zl3_0 : w.heap.size < v3.heap.size := by omega
  have zl3_1 : v2.heap.size < v3.heap.size := by omega
  have hB3 : Below w.heap.size w v3 := Below.trans (by (repeat (first | with_reducible exact hB2 | (with_reducible refine bext ?_ _ _) | (with_reducible refine below_drewN ?_ _) | (with_reducible refine Below.drew ?_) | (with_reducible refine bal ?_ _) | (with_reducible refine bset ?_ (by first | omega | (simp <;> omega)) _)))) (hb3.mono (by first | omega | (simp [ext_size]; try omega)))
  have zw3 := hB3.size
  clear hb3
  clear cc2_0 cc2_1 cc2_2 zl2_0 zz2 zw2 hB2
  go_wp2_with fail
  with_reducible refine (A3 _).mono ?_
  rintro e v4 ⟨rfl, hb4⟩
  have zz4 := hb4.size
  try simp [ext_size] at zz4
  have cc4_0 : v4.cell? ⟨w.heap.size, 0, none⟩ = some (.string s) := (hb4.cell (p := ⟨w.heap.size, 0, none⟩) (by first | omega | (simp [ext_size]; try omega))).trans (by (simp (maxDischargeDepth := 8) [go_sem, World.cell?_alloc_past, ltk2, ltk3, ltk4, ltk5, ltk6, ltk7, ltk8, ltk9, *]))
  have cc4_1 : v4.cell? ⟨w.heap.size, 1, none⟩ = some (.int .i64 ra) := (hb4.cell (p := ⟨w.heap.size, 1, none⟩) (by first | omega | (simp [ext_size]; try omega))).trans (by (simp (maxDischargeDepth := 8) [go_sem, World.cell?_alloc_past, ltk2, ltk3, ltk4, ltk5, ltk6, ltk7, ltk8, ltk9, *]))
  have cc4_2 : v4.cell? ⟨w.heap.size, 2, none⟩ = some (.int .i64 dec) := (hb4.cell (p := ⟨w.heap.size, 2, none⟩) (by first | omega | (simp [ext_size]; try omega))).trans (by (simp (maxDischargeDepth := 8) [go_sem, World.cell?_alloc_past, ltk2, ltk3, ltk4, ltk5, ltk6, ltk7, ltk8, ltk9, *]))
  have cc4_3 : v4.cell? ⟨v2.heap.size, 0, none⟩ = some (.int .i64 x1) := (hb4.cell (p := ⟨v2.heap.size, 0, none⟩) (by first | omega | (simp [ext_size]; try omega))).trans (by (simp (maxDischargeDepth := 8) [go_sem, World.cell?_alloc_past, ltk2, ltk3, ltk4, ltk5, ltk6, ltk7, ltk8, ltk9, *]))
  have cc4_4 : v4.cell? ⟨v2.heap.size, 1, none⟩ = some (.int .i64 x2) := (hb4.cell (p := ⟨v2.heap.size, 1, none⟩) (by first | omega | (simp [ext_size]; try omega))).trans (by (simp (maxDischargeDepth := 8) [go_sem, World.cell?_alloc_past, ltk2, ltk3, ltk4, ltk5, ltk6, ltk7, ltk8, ltk9, *]))
  have cc4_5 : v4.cell? ⟨v2.heap.size, 2, none⟩ = some (.int .i64 y1) := (hb4.cell (p := ⟨v2.heap.size, 2, none⟩) (by first | omega | (simp [ext_size]; try omega))).trans (by (simp (maxDischargeDepth := 8) [go_sem, World.cell?_alloc_past, ltk2, ltk3, ltk4, ltk5, ltk6, ltk7, ltk8, ltk9, *]))
  have cc4_6 : v4.cell? ⟨v2.heap.size, 3, none⟩ = some (.int .i64 y2) := (hb4.cell (p := ⟨v2.heap.size, 3, none⟩) (by first | omega | (simp [ext_size]; try omega))).trans (by (simp (maxDischargeDepth := 8) [go_sem, World.cell?_alloc_past, ltk2, ltk3, ltk4, ltk5, ltk6, ltk7, ltk8, ltk9, *]))
  have cc4_7 : v4.cell? ⟨v2.heap.size, 4, none⟩ = some (.int .i64 z1) := (hb4.cell (p := ⟨v2.heap.size, 4, none⟩) (by first | omega | (simp [ext_size]; try omega))).trans (by (simp (maxDischargeDepth := 8) [go_sem, World.cell?_alloc_past, ltk2, ltk3, ltk4, ltk5, ltk6, ltk7, ltk8, ltk9, *]))
  have cc4_8 : v4.cell? ⟨v2.heap.size, 5, none⟩ = some (.int .i64 z2) := (hb4.cell (p := ⟨v2.heap.size, 5, none⟩) (by first | omega | (simp [ext_size]; try omega))).trans (by (simp (maxDischargeDepth := 8) [go_sem, World.cell?_alloc_past, ltk2, ltk3, ltk4, ltk5, ltk6, ltk7, ltk8, ltk9, *]))
  have cc4_9 : v4.cell? ⟨v3.heap.size, 0, none⟩ = some (.int .i64 L) := (hb4.cell (p := ⟨v3.heap.size, 0, none⟩) (by first | omega | (simp [ext_size]; try omega))).trans (by (simp (maxDischargeDepth := 8) [go_sem, World.cell?_alloc_past, ltk2, ltk3, ltk4, ltk5, ltk6, ltk7, ltk8, ltk9, *]))
  have cc4_10 : v4.cell? ⟨v3.heap.size, 1, none⟩ = some (.int .i64 H) := (hb4.cell (p := ⟨v3.heap.size, 1, none⟩) (by first | omega | (simp [ext_size]; try omega))).trans (by (simp (maxDischargeDepth := 8) [go_sem, World.cell?_alloc_past, ltk2, ltk3, ltk4, ltk5, ltk6, ltk7, ltk8, ltk9, *]))
  have zl4_0 : w.heap.size < v4.heap.size := by omega
  have zl4_1 : v2.heap.size < v4.heap.size := by omega
  have zl4_2 : v3.heap.size < v4.heap.size := by omega
  have hB4 : Below w.heap.size w v4 := Below.trans (by (repeat (first | with_reducible exact hB3 | (with_reducible refine bext ?_ _ _) | (with_reducible refine below_drewN ?_ _) | (with_reducible refine Below.drew ?_) | (with_reducible refine bal ?_ _) | (with_reducible refine bset ?_ (by first | omega | (simp <;> omega)) _)))) (hb4.mono (by first | omega | (simp [ext_size]; try omega)))
  have zw4 := hB4.size
  clear hb4
  clear cc3_0 cc3_1 cc3_2 cc3_3 cc3_4 cc3_5 cc3_6 cc3_7 cc3_8 zl3_0 zl3_1 zz3 zw3 hB3
  go_wp2_with fail
  with_reducible refine (A4 _).mono ?_
  rintro e v5 ⟨rfl, hb5⟩
  have zz5 := hb5.size
  try simp [ext_size] at zz5
  have cc5_0 : v5.cell? ⟨w.heap.size, 0, none⟩ = some (.string s) := (hb5.cell (p := ⟨w.heap.size, 0, none⟩) (by first | omega | (simp [ext_size]; try omega))).trans (by (simp (maxDischargeDepth := 8) [go_sem, World.cell?_alloc_past, ltk2, ltk3, ltk4, ltk5, ltk6, ltk7, ltk8, ltk9, *]))
  have cc5_1 : v5.cell? ⟨w.heap.size, 1, none⟩ = some (.int .i64 ra) := (hb5.cell (p := ⟨w.heap.size, 1, none⟩) (by first | omega | (simp [ext_size]; try omega))).trans (by (simp (maxDischargeDepth := 8) [go_sem, World.cell?_alloc_past, ltk2, ltk3, ltk4, ltk5, ltk6, ltk7, ltk8, ltk9, *]))
  have cc5_2 : v5.cell? ⟨w.heap.size, 2, none⟩ = some (.int .i64 dec) := (hb5.cell (p := ⟨w.heap.size, 2, none⟩) (by first | omega | (simp [ext_size]; try omega))).trans (by (simp (maxDischargeDepth := 8) [go_sem, World.cell?_alloc_past, ltk2, ltk3, ltk4, ltk5, ltk6, ltk7, ltk8, ltk9, *]))
  have cc5_3 : v5.cell? ⟨v2.heap.size, 0, none⟩ = some (.int .i64 x1) := (hb5.cell (p := ⟨v2.heap.size, 0, none⟩) (by first | omega | (simp [ext_size]; try omega))).trans (by (simp (maxDischargeDepth := 8) [go_sem, World.cell?_alloc_past, ltk2, ltk3, ltk4, ltk5, ltk6, ltk7, ltk8, ltk9, *]))
  have cc5_4 : v5.cell? ⟨v2.heap.size, 1, none⟩ = some (.int .i64 x2) := (hb5.cell (p := ⟨v2.heap.size, 1, none⟩) (by first | omega | (simp [ext_size]; try omega))).trans (by (simp (maxDischargeDepth := 8) [go_sem, World.cell?_alloc_past, ltk2, ltk3, ltk4, ltk5, ltk6, ltk7, ltk8, ltk9, *]))
  have cc5_5 : v5.cell? ⟨v2.heap.size, 2, none⟩ = some (.int .i64 y1) := (hb5.cell (p := ⟨v2.heap.size, 2, none⟩) (by first | omega | (simp [ext_size]; try omega))).trans (by (simp (maxDischargeDepth := 8) [go_sem, World.cell?_alloc_past, ltk2, ltk3, ltk4, ltk5, ltk6, ltk7, ltk8, ltk9, *]))
  have cc5_6 : v5.cell? ⟨v2.heap.size, 3, none⟩ = some (.int .i64 y2) := (hb5.cell (p := ⟨v2.heap.size, 3, none⟩) (by first | omega | (simp [ext_size]; try omega))).trans (by (simp (maxDischargeDepth := 8) [go_sem, World.cell?_alloc_past, ltk2, ltk3, ltk4, ltk5, ltk6, ltk7, ltk8, ltk9, *]))
  have cc5_7 : v5.cell? ⟨v2.heap.size, 4, none⟩ = some (.int .i64 z1) := (hb5.cell (p := ⟨v2.heap.size, 4, none⟩) (by first | omega | (simp [ext_size]; try omega))).trans (by (simp (maxDischargeDepth := 8) [go_sem, World.cell?_alloc_past, ltk2, ltk3, ltk4, ltk5, ltk6, ltk7, ltk8, ltk9, *]))
  have cc5_8 : v5.cell? ⟨v2.heap.size, 5, none⟩ = some (.int .i64 z2) := (hb5.cell (p := ⟨v2.heap.size, 5, none⟩) (by first | omega | (simp [ext_size]; try omega))).trans (by (simp (maxDischargeDepth := 8) [go_sem, World.cell?_alloc_past, ltk2, ltk3, ltk4, ltk5, ltk6, ltk7, ltk8, ltk9, *]))
  have cc5_9 : v5.cell? ⟨v3.heap.size, 0, none⟩ = some (.int .i64 L) := (hb5.cell (p := ⟨v3.heap.size, 0, none⟩) (by first | omega | (simp [ext_size]; try omega))).trans (by (simp (maxDischargeDepth := 8) [go_sem, World.cell?_alloc_past, ltk2, ltk3, ltk4, ltk5, ltk6, ltk7, ltk8, ltk9, *]))
  have cc5_10 : v5.cell? ⟨v3.heap.size, 1, none⟩ = some (.int .i64 H) := (hb5.cell (p := ⟨v3.heap.size, 1, none⟩) (by first | omega | (simp [ext_size]; try omega))).trans (by (simp (maxDischargeDepth := 8) [go_sem, World.cell?_alloc_past, ltk2, ltk3, ltk4, ltk5, ltk6, ltk7, ltk8, ltk9, *]))
  have cc5_11 : v5.cell? ⟨v4.heap.size, 0, none⟩ = some (.int .i64 x1) := (hb5.cell (p := ⟨v4.heap.size, 0, none⟩) (by first | omega | (simp [ext_size]; try omega))).trans (by (simp (maxDischargeDepth := 8) [go_sem, World.cell?_alloc_past, ltk2, ltk3, ltk4, ltk5, ltk6, ltk7, ltk8, ltk9, *]))
  have cc5_12 : v5.cell? ⟨v4.heap.size, 1, none⟩ = some (.int .i64 x2) := (hb5.cell (p := ⟨v4.heap.size, 1, none⟩) (by first | omega | (simp [ext_size]; try omega))).trans (by (simp (maxDischargeDepth := 8) [go_sem, World.cell?_alloc_past, ltk2, ltk3, ltk4, ltk5, ltk6, ltk7, ltk8, ltk9, *]))
  have cc5_13 : v5.cell? ⟨v4.heap.size, 2, none⟩ = some (.int .i64 y1) := (hb5.cell (p := ⟨v4.heap.size, 2, none⟩) (by first | omega | (simp [ext_size]; try omega))).trans (by (simp (maxDischargeDepth := 8) [go_sem, World.cell?_alloc_past, ltk2, ltk3, ltk4, ltk5, ltk6, ltk7, ltk8, ltk9, *]))
  have cc5_14 : v5.cell? ⟨v4.heap.size, 3, none⟩ = some (.int .i64 y2) := (hb5.cell (p := ⟨v4.heap.size, 3, none⟩) (by first | omega | (simp [ext_size]; try omega))).trans (by (simp (maxDischargeDepth := 8) [go_sem, World.cell?_alloc_past, ltk2, ltk3, ltk4, ltk5, ltk6, ltk7, ltk8, ltk9, *]))
  have cc5_15 : v5.cell? ⟨v4.heap.size, 4, none⟩ = some (.int .i64 z1) := (hb5.cell (p := ⟨v4.heap.size, 4, none⟩) (by first | omega | (simp [ext_size]; try omega))).trans (by (simp (maxDischargeDepth := 8) [go_sem, World.cell?_alloc_past, ltk2, ltk3, ltk4, ltk5, ltk6, ltk7, ltk8, ltk9, *]))
  have cc5_16 : v5.cell? ⟨v4.heap.size, 5, none⟩ = some (.int .i64 z2) := (hb5.cell (p := ⟨v4.heap.size, 5, none⟩) (by first | omega | (simp [ext_size]; try omega))).trans (by (simp (maxDischargeDepth := 8) [go_sem, World.cell?_alloc_past, ltk2, ltk3, ltk4, ltk5, ltk6, ltk7, ltk8, ltk9, *]))
  have zl5_0 : w.heap.size < v5.heap.size := by omega
  have zl5_1 : v2.heap.size < v5.heap.size := by omega
  have zl5_2 : v3.heap.size < v5.heap.size := by omega
  have zl5_3 : v4.heap.size < v5.heap.size := by omega
  have hB5 : Below w.heap.size w v5 := Below.trans (by (repeat (first | with_reducible exact hB4 | (with_reducible refine bext ?_ _ _) | (with_reducible refine below_drewN ?_ _) | (with_reducible refine Below.drew ?_) | (with_reducible refine bal ?_ _) | (with_reducible refine bset ?_ (by first | omega | (simp <;> omega)) _)))) (hb5.mono (by first | omega | (simp [ext_size]; try omega)))
  have zw5 := hB5.size
  clear hb5
  clear cc4_0 cc4_1 cc4_2 cc4_3 cc4_4 cc4_5 cc4_6 cc4_7 cc4_8 cc4_9 cc4_10 zl4_0 zl4_1 zl4_2 zz4 zw4 hB4
  go_wp2_with fail
  with_reducible refine (A5 _).mono ?_
  rintro e v6 ⟨⟨g, rfl, zg, cg⟩, hb6⟩
  have zz6 := hb6.size
  try simp [ext_size] at zz6
  have cc6_0 : v6.cell? ⟨v2.heap.size, 0, none⟩ = some (.int .i64 x1) := (hb6.cell (p := ⟨v2.heap.size, 0, none⟩) (by first | omega | (simp [ext_size]; try omega))).trans (by (simp (maxDischargeDepth := 8) [go_sem, World.cell?_alloc_past, ltk2, ltk3, ltk4, ltk5, ltk6, ltk7, ltk8, ltk9, *]))
  have cc6_1 : v6.cell? ⟨v2.heap.size, 1, none⟩ = some (.int .i64 x2) := (hb6.cell (p := ⟨v2.heap.size, 1, none⟩) (by first | omega | (simp [ext_size]; try omega))).trans (by (simp (maxDischargeDepth := 8) [go_sem, World.cell?_alloc_past, ltk2, ltk3, ltk4, ltk5, ltk6, ltk7, ltk8, ltk9, *]))
  have cc6_2 : v6.cell? ⟨v2.heap.size, 2, none⟩ = some (.int .i64 y1) := (hb6.cell (p := ⟨v2.heap.size, 2, none⟩) (by first | omega | (simp [ext_size]; try omega))).trans (by (simp (maxDischargeDepth := 8) [go_sem, World.cell?_alloc_past, ltk2, ltk3, ltk4, ltk5, ltk6, ltk7, ltk8, ltk9, *]))
  have cc6_3 : v6.cell? ⟨v2.heap.size, 3, none⟩ = some (.int .i64 y2) := (hb6.cell (p := ⟨v2.heap.size, 3, none⟩) (by first | omega | (simp [ext_size]; try omega))).trans (by (simp (maxDischargeDepth := 8) [go_sem, World.cell?_alloc_past, ltk2, ltk3, ltk4, ltk5, ltk6, ltk7, ltk8, ltk9, *]))
  have cc6_4 : v6.cell? ⟨v2.heap.size, 4, none⟩ = some (.int .i64 z1) := (hb6.cell (p := ⟨v2.heap.size, 4, none⟩) (by first | omega | (simp [ext_size]; try omega))).trans (by (simp (maxDischargeDepth := 8) [go_sem, World.cell?_alloc_past, ltk2, ltk3, ltk4, ltk5, ltk6, ltk7, ltk8, ltk9, *]))
  have cc6_5 : v6.cell? ⟨v2.heap.size, 5, none⟩ = some (.int .i64 z2) := (hb6.cell (p := ⟨v2.heap.size, 5, none⟩) (by first | omega | (simp [ext_size]; try omega))).trans (by (simp (maxDischargeDepth := 8) [go_sem, World.cell?_alloc_past, ltk2, ltk3, ltk4, ltk5, ltk6, ltk7, ltk8, ltk9, *]))
  have cc6_6 : v6.cell? ⟨v3.heap.size, 0, none⟩ = some (.int .i64 L) := (hb6.cell (p := ⟨v3.heap.size, 0, none⟩) (by first | omega | (simp [ext_size]; try omega))).trans (by (simp (maxDischargeDepth := 8) [go_sem, World.cell?_alloc_past, ltk2, ltk3, ltk4, ltk5, ltk6, ltk7, ltk8, ltk9, *]))
  have cc6_7 : v6.cell? ⟨v3.heap.size, 1, none⟩ = some (.int .i64 H) := (hb6.cell (p := ⟨v3.heap.size, 1, none⟩) (by first | omega | (simp [ext_size]; try omega))).trans (by (simp (maxDischargeDepth := 8) [go_sem, World.cell?_alloc_past, ltk2, ltk3, ltk4, ltk5, ltk6, ltk7, ltk8, ltk9, *]))
  have cc6_8 : v6.cell? ⟨v4.heap.size, 0, none⟩ = some (.int .i64 x1) := (hb6.cell (p := ⟨v4.heap.size, 0, none⟩) (by first | omega | (simp [ext_size]; try omega))).trans (by (simp (maxDischargeDepth := 8) [go_sem, World.cell?_alloc_past, ltk2, ltk3, ltk4, ltk5, ltk6, ltk7, ltk8, ltk9, *]))
  have cc6_9 : v6.cell? ⟨v4.heap.size, 1, none⟩ = some (.int .i64 x2) := (hb6.cell (p := ⟨v4.heap.size, 1, none⟩) (by first | omega | (simp [ext_size]; try omega))).trans (by (simp (maxDischargeDepth := 8) [go_sem, World.cell?_alloc_past, ltk2, ltk3, ltk4, ltk5, ltk6, ltk7, ltk8, ltk9, *]))
  have cc6_10 : v6.cell? ⟨v4.heap.size, 2, none⟩ = some (.int .i64 y1) := (hb6.cell (p := ⟨v4.heap.size, 2, none⟩) (by first | omega | (simp [ext_size]; try omega))).trans (by (simp (maxDischargeDepth := 8) [go_sem, World.cell?_alloc_past, ltk2, ltk3, ltk4, ltk5, ltk6, ltk7, ltk8, ltk9, *]))
  have cc6_11 : v6.cell? ⟨v4.heap.size, 3, none⟩ = some (.int .i64 y2) := (hb6.cell (p := ⟨v4.heap.size, 3, none⟩) (by first | omega | (simp [ext_size]; try omega))).trans (by (simp (maxDischargeDepth := 8) [go_sem, World.cell?_alloc_past, ltk2, ltk3, ltk4, ltk5, ltk6, ltk7, ltk8, ltk9, *]))
  have cc6_12 : v6.cell? ⟨v4.heap.size, 4, none⟩ = some (.int .i64 z1) := (hb6.cell (p := ⟨v4.heap.size, 4, none⟩) (by first | omega | (simp [ext_size]; try omega))).trans (by (simp (maxDischargeDepth := 8) [go_sem, World.cell?_alloc_past, ltk2, ltk3, ltk4, ltk5, ltk6, ltk7, ltk8, ltk9, *]))
  have cc6_13 : v6.cell? ⟨v4.heap.size, 5, none⟩ = some (.int .i64 z2) := (hb6.cell (p := ⟨v4.heap.size, 5, none⟩) (by first | omega | (simp [ext_size]; try omega))).trans (by (simp (maxDischargeDepth := 8) [go_sem, World.cell?_alloc_past, ltk2, ltk3, ltk4, ltk5, ltk6, ltk7, ltk8, ltk9, *]))
  have cc6_14 : v6.cell? ⟨v5.heap.size, 0, none⟩ = some (.int .i64 y1) := (hb6.cell (p := ⟨v5.heap.size, 0, none⟩) (by first | omega | (simp [ext_size]; try omega))).trans (by (simp (maxDischargeDepth := 8) [go_sem, World.cell?_alloc_past, ltk2, ltk3, ltk4, ltk5, ltk6, ltk7, ltk8, ltk9, *]))
  have cc6_15 : v6.cell? ⟨v5.heap.size, 1, none⟩ = some (.int .i64 y2) := (hb6.cell (p := ⟨v5.heap.size, 1, none⟩) (by first | omega | (simp [ext_size]; try omega))).trans (by (simp (maxDischargeDepth := 8) [go_sem, World.cell?_alloc_past, ltk2, ltk3, ltk4, ltk5, ltk6, ltk7, ltk8, ltk9, *]))
  have cc6_16 : v6.cell? ⟨v5.heap.size, 2, none⟩ = some (.int .i64 (-x2)) := (hb6.cell (p := ⟨v5.heap.size, 2, none⟩) (by first | omega | (simp [ext_size]; try omega))).trans (by (simp (maxDischargeDepth := 8) [go_sem, World.cell?_alloc_past, ltk2, ltk3, ltk4, ltk5, ltk6, ltk7, ltk8, ltk9, *]))
  have cc6_17 : v6.cell? ⟨v5.heap.size, 3, none⟩ = some (.int .i64 (-x1)) := (hb6.cell (p := ⟨v5.heap.size, 3, none⟩) (by first | omega | (simp [ext_size]; try omega))).trans (by (simp (maxDischargeDepth := 8) [go_sem, World.cell?_alloc_past, ltk2, ltk3, ltk4, ltk5, ltk6, ltk7, ltk8, ltk9, *]))
  have cc6_18 : v6.cell? ⟨v5.heap.size, 4, none⟩ = some (.int .i64 z1) := (hb6.cell (p := ⟨v5.heap.size, 4, none⟩) (by first | omega | (simp [ext_size]; try omega))).trans (by (simp (maxDischargeDepth := 8) [go_sem, World.cell?_alloc_past, ltk2, ltk3, ltk4, ltk5, ltk6, ltk7, ltk8, ltk9, *]))
  have cc6_19 : v6.cell? ⟨v5.heap.size, 5, none⟩ = some (.int .i64 z2) := (hb6.cell (p := ⟨v5.heap.size, 5, none⟩) (by first | omega | (simp [ext_size]; try omega))).trans (by (simp (maxDischargeDepth := 8) [go_sem, World.cell?_alloc_past, ltk2, ltk3, ltk4, ltk5, ltk6, ltk7, ltk8, ltk9, *]))
  have pc0 := cg 0 (by omega)
  rw [HP0.out] at pc0
  have pc1 := cg 1 (by omega)
  rw [HP1.out] at pc1
  have pc2 := cg 2 (by omega)
  rw [HP2.out] at pc2
  have pc3 := cg 3 (by omega)
  rw [HP3.out] at pc3
  have pc4 := cg 4 (by omega)
  rw [HP4.out] at pc4
  have pc5 := cg 5 (by omega)
  rw [HP5.out] at pc5
  have pc6 := cg 6 (by omega)
  rw [HP6.out] at pc6
  have pc7 := cg 7 (by omega)
  rw [HP7.out] at pc7
  have pc8 := cg 8 (by omega)
  rw [HP8.out] at pc8
  have pc9 := cg 9 (by omega)
  rw [HP9.out] at pc9
  have pc10 := cg 10 (by omega)
  rw [HP10.out] at pc10
  have pc11 := cg 11 (by omega)
  rw [HP11.out] at pc11
  have pc12 := cg 12 (by omega)
  rw [HP12.out] at pc12
  have pc13 := cg 13 (by omega)
  rw [HP13.out] at pc13
  have pc14 := cg 14 (by omega)
  rw [HP14.out] at pc14
  have pc15 := cg 15 (by omega)
  rw [HP15.out] at pc15
  have pc16 := cg 16 (by omega)
  rw [HP16.out] at pc16
  have pc17 := cg 17 (by omega)
  rw [HP17.out] at pc17
  have pc24 := cg 24 (by omega)
  rw [HP24.out] at pc24
  have pc25 := cg 25 (by omega)
  rw [HP25.out] at pc25
  have pc26 := cg 26 (by omega)
  rw [HP26.out] at pc26
  have pc27 := cg 27 (by omega)
  rw [HP27.out] at pc27
  have pc28 := cg 28 (by omega)
  rw [HP28.out] at pc28
  have pc29 := cg 29 (by omega)
  rw [HP29.out] at pc29
  have zl6_0 : v2.heap.size < v6.heap.size := by omega
  have zl6_1 : v3.heap.size < v6.heap.size := by omega
  have zl6_2 : v4.heap.size < v6.heap.size := by omega
  have zl6_3 : v5.heap.size < v6.heap.size := by omega
  have hB6 : Below w.heap.size w v6 := Below.trans (by (repeat (first | with_reducible exact hB5 | (with_reducible refine bext ?_ _ _) | (with_reducible refine below_drewN ?_ _) | (with_reducible refine Below.drew ?_) | (with_reducible refine bal ?_ _) | (with_reducible refine bset ?_ (by first | omega | (simp <;> omega)) _)))) (hb6.mono (by first | omega | (simp [ext_size]; try omega)))
  have zw6 := hB6.size
  clear hb6 cg cc5_0 cc5_1 cc5_2 cc5_3 cc5_4 cc5_5 cc5_6 cc5_7 cc5_8 cc5_9 cc5_10 cc5_11 cc5_12 cc5_13 cc5_14 cc5_15 cc5_16 zl5_0 zl5_1 zl5_2 zl5_3 zz5 zw5 hB5
  clear A0 A1 A2 A3 A4 A5 dAl dSt xC xF xS xN xD xL xE xG xX xL1 xL2 xL3 xM0 xM1 xM2
  clear HP0 HP1 HP2 HP3 HP4 HP5 HP6 HP7 HP8 HP9 HP10 HP11 HP12 HP13 HP14 HP15 HP16 HP17 HP24 HP25 HP26 HP27 HP28 HP29
  have g1 : (1000000 < L) = False := by simp; omega
  have g2 : (H < 1000000) = False := by simp; omega
  have g3 : (20 < H - L) = False := by simp; omega
  have g4 : -9223372036854775808 ≤ H - L := by omega
  have g5 : H - L ≤ 9223372036854775807 := by omega
  go_upto_region 10 with fail
  refine opq (fun wx => wx.cell? ⟨v2.heap.size, 0, none⟩ = some (.int .i64 x1) ∧ wx.cell? ⟨v2.heap.size, 1, none⟩ = some (.int .i64 x2) ∧ wx.cell? ⟨v2.heap.size, 2, none⟩ = some (.int .i64 y1) ∧ wx.cell? ⟨v2.heap.size, 3, none⟩ = some (.int .i64 y2) ∧ wx.cell? ⟨v2.heap.size, 4, none⟩ = some (.int .i64 z1) ∧ wx.cell? ⟨v2.heap.size, 5, none⟩ = some (.int .i64 z2) ∧ wx.cell? ⟨v5.heap.size, 0, none⟩ = some (.int .i64 y1) ∧ wx.cell? ⟨v5.heap.size, 1, none⟩ = some (.int .i64 y2) ∧ wx.cell? ⟨v5.heap.size, 2, none⟩ = some (.int .i64 (-x2)) ∧ wx.cell? ⟨v5.heap.size, 3, none⟩ = some (.int .i64 (-x1)) ∧ wx.cell? ⟨v5.heap.size, 4, none⟩ = some (.int .i64 z1) ∧ wx.cell? ⟨v5.heap.size, 5, none⟩ = some (.int .i64 z2) ∧ wx.cell? ⟨g, 0, none⟩ = some (.int .i64 x1) ∧ wx.cell? ⟨g, 1, none⟩ = some (.int .i64 x2) ∧ wx.cell? ⟨g, 2, none⟩ = some (.int .i64 y1) ∧ wx.cell? ⟨g, 3, none⟩ = some (.int .i64 y2) ∧ wx.cell? ⟨g, 4, none⟩ = some (.int .i64 z1) ∧ wx.cell? ⟨g, 5, none⟩ = some (.int .i64 z2) ∧ wx.cell? ⟨g, 6, none⟩ = some (.int .i64 y1) ∧ wx.cell? ⟨g, 7, none⟩ = some (.int .i64 y2) ∧ wx.cell? ⟨g, 8, none⟩ = some (.int .i64 (-x2)) ∧ wx.cell? ⟨g, 9, none⟩ = some (.int .i64 (-x1)) ∧ wx.cell? ⟨g, 10, none⟩ = some (.int .i64 z1) ∧ wx.cell? ⟨g, 11, none⟩ = some (.int .i64 z2) ∧ wx.cell? ⟨g, 12, none⟩ = some (.int .i64 (-x2)) ∧ wx.cell? ⟨g, 13, none⟩ = some (.int .i64 (-x1)) ∧ wx.cell? ⟨g, 14, none⟩ = some (.int .i64 (-y2)) ∧ wx.cell? ⟨g, 15, none⟩ = some (.int .i64 (-y1)) ∧ wx.cell? ⟨g, 16, none⟩ = some (.int .i64 z1) ∧ wx.cell? ⟨g, 17, none⟩ = some (.int .i64 z2) ∧ wx.cell? ⟨g, 24, none⟩ = some (.int .i64 x1) ∧ wx.cell? ⟨g, 25, none⟩ = some (.int .i64 x2) ∧ wx.cell? ⟨g, 26, none⟩ = some (.int .i64 y1) ∧ wx.cell? ⟨g, 27, none⟩ = some (.int .i64 y2) ∧ wx.cell? ⟨g, 28, none⟩ = some (.int .i64 z1) ∧ wx.cell? ⟨g, 29, none⟩ = some (.int .i64 z2) ∧ v2.heap.size < wx.heap.size ∧ v5.heap.size < wx.heap.size ∧ g < wx.heap.size ∧ Below w.heap.size w wx) ?_ ?_
  · exact ⟨by first | assumption | (simp (maxDischargeDepth := 8) [go_sem, World.cell?_alloc_past, ltk2, ltk3, ltk4, ltk5, ltk6, ltk7, ltk8, ltk9, *]), by first | assumption | (simp (maxDischargeDepth := 8) [go_sem, World.cell?_alloc_past, ltk2, ltk3, ltk4, ltk5, ltk6, ltk7, ltk8, ltk9, *]), by first | assumption | (simp (maxDischargeDepth := 8) [go_sem, World.cell?_alloc_past, ltk2, ltk3, ltk4, ltk5, ltk6, ltk7, ltk8, ltk9, *]), by first | assumption | (simp (maxDischargeDepth := 8) [go_sem, World.cell?_alloc_past, ltk2, ltk3, ltk4, ltk5, ltk6, ltk7, ltk8, ltk9, *]), by first | assumption | (simp (maxDischargeDepth := 8) [go_sem, World.cell?_alloc_past, ltk2, ltk3, ltk4, ltk5, ltk6, ltk7, ltk8, ltk9, *]), by first | assumption | (simp (maxDischargeDepth := 8) [go_sem, World.cell?_alloc_past, ltk2, ltk3, ltk4, ltk5, ltk6, ltk7, ltk8, ltk9, *]), by first | assumption | (simp (maxDischargeDepth := 8) [go_sem, World.cell?_alloc_past, ltk2, ltk3, ltk4, ltk5, ltk6, ltk7, ltk8, ltk9, *]), by first | assumption | (simp (maxDischargeDepth := 8) [go_sem, World.cell?_alloc_past, ltk2, ltk3, ltk4, ltk5, ltk6, ltk7, ltk8, ltk9, *]), by first | assumption | (simp (maxDischargeDepth := 8) [go_sem, World.cell?_alloc_past, ltk2, ltk3, ltk4, ltk5, ltk6, ltk7, ltk8, ltk9, *]), by first | assumption | (simp (maxDischargeDepth := 8) [go_sem, World.cell?_alloc_past, ltk2, ltk3, ltk4, ltk5, ltk6, ltk7, ltk8, ltk9, *]), by first | assumption | (simp (maxDischargeDepth := 8) [go_sem, World.cell?_alloc_past, ltk2, ltk3, ltk4, ltk5, ltk6, ltk7, ltk8, ltk9, *]), by first | assumption | (simp (maxDischargeDepth := 8) [go_sem, World.cell?_alloc_past, ltk2, ltk3, ltk4, ltk5, ltk6, ltk7, ltk8, ltk9, *]), by first | assumption | (simp (maxDischargeDepth := 8) [go_sem, World.cell?_alloc_past, ltk2, ltk3, ltk4, ltk5, ltk6, ltk7, ltk8, ltk9, *]), by first | assumption | (simp (maxDischargeDepth := 8) [go_sem, World.cell?_alloc_past, ltk2, ltk3, ltk4, ltk5, ltk6, ltk7, ltk8, ltk9, *]), by first | assumption | (simp (maxDischargeDepth := 8) [go_sem, World.cell?_alloc_past, ltk2, ltk3, ltk4, ltk5, ltk6, ltk7, ltk8, ltk9, *]), by first | assumption | (simp (maxDischargeDepth := 8) [go_sem, World.cell?_alloc_past, ltk2, ltk3, ltk4, ltk5, ltk6, ltk7, ltk8, ltk9, *]), by first | assumption | (simp (maxDischargeDepth := 8) [go_sem, World.cell?_alloc_past, ltk2, ltk3, ltk4, ltk5, ltk6, ltk7, ltk8, ltk9, *]), by first | assumption | (simp (maxDischargeDepth := 8) [go_sem, World.cell?_alloc_past, ltk2, ltk3, ltk4, ltk5, ltk6, ltk7, ltk8, ltk9, *]), by first | assumption | (simp (maxDischargeDepth := 8) [go_sem, World.cell?_alloc_past, ltk2, ltk3, ltk4, ltk5, ltk6, ltk7, ltk8, ltk9, *]), by first | assumption | (simp (maxDischargeDepth := 8) [go_sem, World.cell?_alloc_past, ltk2, ltk3, ltk4, ltk5, ltk6, ltk7, ltk8, ltk9, *]), by first | assumption | (simp (maxDischargeDepth := 8) [go_sem, World.cell?_alloc_past, ltk2, ltk3, ltk4, ltk5, ltk6, ltk7, ltk8, ltk9, *]), by first | assumption | (simp (maxDischargeDepth := 8) [go_sem, World.cell?_alloc_past, ltk2, ltk3, ltk4, ltk5, ltk6, ltk7, ltk8, ltk9, *]), by first | assumption | (simp (maxDischargeDepth := 8) [go_sem, World.cell?_alloc_past, ltk2, ltk3, ltk4, ltk5, ltk6, ltk7, ltk8, ltk9, *]), by first | assumption | (simp (maxDischargeDepth := 8) [go_sem, World.cell?_alloc_past, ltk2, ltk3, ltk4, ltk5, ltk6, ltk7, ltk8, ltk9, *]), by first | assumption | (simp (maxDischargeDepth := 8) [go_sem, World.cell?_alloc_past, ltk2, ltk3, ltk4, ltk5, ltk6, ltk7, ltk8, ltk9, *]), by first | assumption | (simp (maxDischargeDepth := 8) [go_sem, World.cell?_alloc_past, ltk2, ltk3, ltk4, ltk5, ltk6, ltk7, ltk8, ltk9, *]), by first | assumption | (simp (maxDischargeDepth := 8) [go_sem, World.cell?_alloc_past, ltk2, ltk3, ltk4, ltk5, ltk6, ltk7, ltk8, ltk9, *]), by first | assumption | (simp (maxDischargeDepth := 8) [go_sem, World.cell?_alloc_past, ltk2, ltk3, ltk4, ltk5, ltk6, ltk7, ltk8, ltk9, *]), by first | assumption | (simp (maxDischargeDepth := 8) [go_sem, World.cell?_alloc_past, ltk2, ltk3, ltk4, ltk5, ltk6, ltk7, ltk8, ltk9, *]), by first | assumption | (simp (maxDischargeDepth := 8) [go_sem, World.cell?_alloc_past, ltk2, ltk3, ltk4, ltk5, ltk6, ltk7, ltk8, ltk9, *]), by first | assumption | (simp (maxDischargeDepth := 8) [go_sem, World.cell?_alloc_past, ltk2, ltk3, ltk4, ltk5, ltk6, ltk7, ltk8, ltk9, *]), by first | assumption | (simp (maxDischargeDepth := 8) [go_sem, World.cell?_alloc_past, ltk2, ltk3, ltk4, ltk5, ltk6, ltk7, ltk8, ltk9, *]), by first | assumption | (simp (maxDischargeDepth := 8) [go_sem, World.cell?_alloc_past, ltk2, ltk3, ltk4, ltk5, ltk6, ltk7, ltk8, ltk9, *]), by first | assumption | (simp (maxDischargeDepth := 8) [go_sem, World.cell?_alloc_past, ltk2, ltk3, ltk4, ltk5, ltk6, ltk7, ltk8, ltk9, *]), by first | assumption | (simp (maxDischargeDepth := 8) [go_sem, World.cell?_alloc_past, ltk2, ltk3, ltk4, ltk5, ltk6, ltk7, ltk8, ltk9, *]), by first | assumption | (simp (maxDischargeDepth := 8) [go_sem, World.cell?_alloc_past, ltk2, ltk3, ltk4, ltk5, ltk6, ltk7, ltk8, ltk9, *]), by first | assumption | omega | (simp [ext_size]; try omega), by first | assumption | omega | (simp [ext_size]; try omega), by first | assumption | omega | (simp [ext_size]; try omega), by (repeat (first | with_reducible exact hB6 | (with_reducible refine bext ?_ _ _) | (with_reducible refine below_drewN ?_ _) | (with_reducible refine Below.drew ?_) | (with_reducible refine bal ?_ _) | (with_reducible refine bset ?_ (by first | omega | (simp <;> omega)) _)))⟩
  rintro wx ⟨k0, k1, k2, k3, k4, k5, k6, k7, k8, k9, k10, k11, k12, k13, k14, k15, k16, k17, k18, k19, k20, k21, k22, k23, k24, k25, k26, k27, k28, k29, k30, k31, k32, k33, k34, k35, zs0, zs1, zs2, hB⟩
  clear cc6_0 cc6_1 cc6_2 cc6_3 cc6_4 cc6_5 cc6_6 cc6_7 cc6_8 cc6_9 cc6_10 cc6_11 cc6_12 cc6_13 cc6_14 cc6_15 cc6_16 cc6_17 cc6_18 cc6_19 pc0 pc1 pc2 pc3 pc4 pc5 pc6 pc7 pc8 pc9 pc10 pc11 pc12 pc13 pc14 pc15 pc16 pc17 pc24 pc25 pc26 pc27 pc28 pc29 zl6_0 zl6_1 zl6_2 zl6_3 zz6 zw6 hB6 zg g1 g2 g3 g4 g5 lo hi wd
  generalize v2.heap.size = bD at *
  generalize v5.heap.size = bQ at *
  have zx := hB.size
  go_cut [15] (fun s15 wc => ∃ b : Nat, s15 = .pointer (some ⟨b, 0, none⟩) ∧ (wc.cell? ⟨b, 0, none⟩ = some (.int .i64 (-x2)) ∧ wc.cell? ⟨b, 1, none⟩ = some (.int .i64 (-x1)) ∧ wc.cell? ⟨b, 2, none⟩ = some (.int .i64 (-y2)) ∧ wc.cell? ⟨b, 3, none⟩ = some (.int .i64 (-y1)) ∧ wc.cell? ⟨b, 4, none⟩ = some (.int .i64 z1) ∧ wc.cell? ⟨b, 5, none⟩ = some (.int .i64 z2)) ∧ b < wc.heap.size ∧ Below wx.heap.size wx wc)
  case first =>
    clear AL k6 k7 k8 k9 k10 k11 k12 k13 k14 k15 k16 k17 k18 k19 k20 k21 k22 k23 k24 k25 k26 k27 k28 k29 k30 k31 k32 k33 k34 k35
    have xC := ext_cell; have xF := ext_frozen; have xL := ext_lt; have xE := ext_ne; have xG := ext_nr
    refine wp_region_held_drew (S := (fun w' => Below wx.heap.size wx w')) (by kernel_rfl) ?_ (fun hHeld => ?_)
    · exact Below.drew (Below.refl _ _)
    refine wpAnyH_take (i := 0) (oi := { dst := some 99, op := Op.fieldAddr 30 (Operand.tmp 5) 0, type := 0, pos := "law.go:112", after := #[], guard := none }) (v := ?_) rfl (by kernel_rfl) (by kernel_rfl) (by kernel_rfl) (fun _ _ _ h => h) (Or.inl ⟨by rfl, ?_⟩) (by assumption) ?_
    rotate_left
    · (intro w hSw; (try dsimp only at hSw); go_simp; have q0 := (Below.cell hSw (p := ⟨bD, 0, none⟩) zs0).trans k0; have q1 := (Below.cell hSw (p := ⟨bD, 1, none⟩) zs0).trans k1; have q2 := (Below.cell hSw (p := ⟨bD, 2, none⟩) zs0).trans k2; have q3 := (Below.cell hSw (p := ⟨bD, 3, none⟩) zs0).trans k3; have q4 := (Below.cell hSw (p := ⟨bD, 4, none⟩) zs0).trans k4; have q5 := (Below.cell hSw (p := ⟨bD, 5, none⟩) zs0).trans k5; (try simp [*]); (try with_reducible rfl))
    try simp only [Act.put, List.setIfInBounds_toArray, List.set_cons_zero, List.set_cons_succ]
    refine wpAnyH_take (i := 1) (oi := { dst := some 100, op := Op.load 28 (Operand.tmp 99), type := 28, pos := "law.go:112", after := #[{ on := 0, ground := Ground.data }], guard := none }) (v := ?_) rfl (by kernel_rfl) (by kernel_rfl) (by kernel_rfl) (fun _ _ _ h => h) (Or.inl ⟨by rfl, ?_⟩) (by assumption) ?_
    rotate_left
    · (intro w hSw; (try dsimp only at hSw); go_simp; have q0 := (Below.cell hSw (p := ⟨bD, 0, none⟩) zs0).trans k0; have q1 := (Below.cell hSw (p := ⟨bD, 1, none⟩) zs0).trans k1; have q2 := (Below.cell hSw (p := ⟨bD, 2, none⟩) zs0).trans k2; have q3 := (Below.cell hSw (p := ⟨bD, 3, none⟩) zs0).trans k3; have q4 := (Below.cell hSw (p := ⟨bD, 4, none⟩) zs0).trans k4; have q5 := (Below.cell hSw (p := ⟨bD, 5, none⟩) zs0).trans k5; (try simp [*]); (try with_reducible rfl))
    try simp only [Act.put, List.setIfInBounds_toArray, List.set_cons_zero, List.set_cons_succ]
    refine wpAnyH_take (i := 3) (oi := { dst := some 102, op := Op.fieldAddr 30 (Operand.tmp 5) 1, type := 0, pos := "law.go:112", after := #[], guard := none }) (v := ?_) rfl (by kernel_rfl) (by kernel_rfl) (by kernel_rfl) (fun _ _ _ h => h) (Or.inl ⟨by rfl, ?_⟩) (by assumption) ?_
    rotate_left
    · (intro w hSw; (try dsimp only at hSw); go_simp; have q0 := (Below.cell hSw (p := ⟨bD, 0, none⟩) zs0).trans k0; have q1 := (Below.cell hSw (p := ⟨bD, 1, none⟩) zs0).trans k1; have q2 := (Below.cell hSw (p := ⟨bD, 2, none⟩) zs0).trans k2; have q3 := (Below.cell hSw (p := ⟨bD, 3, none⟩) zs0).trans k3; have q4 := (Below.cell hSw (p := ⟨bD, 4, none⟩) zs0).trans k4; have q5 := (Below.cell hSw (p := ⟨bD, 5, none⟩) zs0).trans k5; (try simp [*]); (try with_reducible rfl))
    try simp only [Act.put, List.setIfInBounds_toArray, List.set_cons_zero, List.set_cons_succ]
    refine wpAnyH_take (i := 4) (oi := { dst := some 103, op := Op.load 28 (Operand.tmp 102), type := 28, pos := "law.go:112", after := #[{ on := 3, ground := Ground.data }], guard := none }) (v := ?_) rfl (by kernel_rfl) (by kernel_rfl) (by kernel_rfl) (fun _ _ _ h => h) (Or.inl ⟨by rfl, ?_⟩) (by assumption) ?_
    rotate_left
    · (intro w hSw; (try dsimp only at hSw); go_simp; have q0 := (Below.cell hSw (p := ⟨bD, 0, none⟩) zs0).trans k0; have q1 := (Below.cell hSw (p := ⟨bD, 1, none⟩) zs0).trans k1; have q2 := (Below.cell hSw (p := ⟨bD, 2, none⟩) zs0).trans k2; have q3 := (Below.cell hSw (p := ⟨bD, 3, none⟩) zs0).trans k3; have q4 := (Below.cell hSw (p := ⟨bD, 4, none⟩) zs0).trans k4; have q5 := (Below.cell hSw (p := ⟨bD, 5, none⟩) zs0).trans k5; (try simp [*]); (try with_reducible rfl))
    try simp only [Act.put, List.setIfInBounds_toArray, List.set_cons_zero, List.set_cons_succ]
    refine wpAnyH_take (i := 6) (oi := { dst := some 105, op := Op.fieldAddr 30 (Operand.tmp 5) 2, type := 0, pos := "law.go:112", after := #[], guard := none }) (v := ?_) rfl (by kernel_rfl) (by kernel_rfl) (by kernel_rfl) (fun _ _ _ h => h) (Or.inl ⟨by rfl, ?_⟩) (by assumption) ?_
    rotate_left
    · (intro w hSw; (try dsimp only at hSw); go_simp; have q0 := (Below.cell hSw (p := ⟨bD, 0, none⟩) zs0).trans k0; have q1 := (Below.cell hSw (p := ⟨bD, 1, none⟩) zs0).trans k1; have q2 := (Below.cell hSw (p := ⟨bD, 2, none⟩) zs0).trans k2; have q3 := (Below.cell hSw (p := ⟨bD, 3, none⟩) zs0).trans k3; have q4 := (Below.cell hSw (p := ⟨bD, 4, none⟩) zs0).trans k4; have q5 := (Below.cell hSw (p := ⟨bD, 5, none⟩) zs0).trans k5; (try simp [*]); (try with_reducible rfl))
    try simp only [Act.put, List.setIfInBounds_toArray, List.set_cons_zero, List.set_cons_succ]
    refine wpAnyH_take (i := 7) (oi := { dst := some 106, op := Op.load 28 (Operand.tmp 105), type := 28, pos := "law.go:112", after := #[{ on := 6, ground := Ground.data }], guard := none }) (v := ?_) rfl (by kernel_rfl) (by kernel_rfl) (by kernel_rfl) (fun _ _ _ h => h) (Or.inl ⟨by rfl, ?_⟩) (by assumption) ?_
    rotate_left
    · (intro w hSw; (try dsimp only at hSw); go_simp; have q0 := (Below.cell hSw (p := ⟨bD, 0, none⟩) zs0).trans k0; have q1 := (Below.cell hSw (p := ⟨bD, 1, none⟩) zs0).trans k1; have q2 := (Below.cell hSw (p := ⟨bD, 2, none⟩) zs0).trans k2; have q3 := (Below.cell hSw (p := ⟨bD, 3, none⟩) zs0).trans k3; have q4 := (Below.cell hSw (p := ⟨bD, 4, none⟩) zs0).trans k4; have q5 := (Below.cell hSw (p := ⟨bD, 5, none⟩) zs0).trans k5; (try simp [*]); (try with_reducible rfl))
    try simp only [Act.put, List.setIfInBounds_toArray, List.set_cons_zero, List.set_cons_succ]
    refine wpAnyH_ready (rs := [2, 9]) (by kernel_rfl) (by simp) ?_
    refine AllReadyH.cons (o := { dst := some 101, op := Op.call { callee := Callee.value (Operand.func 23), args := #[Operand.tmp 100], argTypes := #[28] }, type := 28, pos := "law.go:112", after := #[{ on := 1, ground := Ground.data }], guard := none }) rfl (fun K hK => ?_) ?_
    · go_simp
      with_reducible refine (N1 _).mono ?_
      rintro e w9 ⟨rfl, hb9⟩
      obtain ⟨l9, d9, rfl⟩ := toExt hb9
      clear hb9
      (try go_wp2_with fail)
      refine hK.out _ _ ?_ (fun hHeld2 => ?_)
      · (repeat (first | with_reducible exact hHeld | with_reducible exact Below.refl _ _ | with_reducible refine bextm ?_ (by first | omega | (simp [ext_size, World.setCell] <;> omega)) _ _ | with_reducible refine below_drewN ?_ _ | with_reducible refine Below.drew ?_ | with_reducible refine Below.alloc ?_ (by first | omega | (simp [ext_size, World.setCell] <;> omega)) _ | with_reducible refine Below.setCell ?_ (by first | omega | (simp [ext_size, World.setCell] <;> omega)) _))
      clear hK K hHeld
      have hHeld := hHeld2
      clear hHeld2
      try simp only [Act.put, List.setIfInBounds_toArray, List.set_cons_zero, List.set_cons_succ]
      refine wpAnyH_ready (rs := [5, 9]) (by kernel_rfl) (by simp) ?_
      refine AllReadyH.cons (o := { dst := some 104, op := Op.call { callee := Callee.value (Operand.func 23), args := #[Operand.tmp 103], argTypes := #[28] }, type := 28, pos := "law.go:112", after := #[{ on := 4, ground := Ground.data }, { on := 2, ground := Ground.chain }], guard := none }) rfl (fun K hK => ?_) ?_
      · go_simp
        with_reducible refine (N2 _).mono ?_
        rintro e w9 ⟨rfl, hb9⟩
        obtain ⟨l9, d9, rfl⟩ := toExt hb9
        clear hb9
        (try go_wp2_with fail)
        refine hK.out _ _ ?_ (fun hHeld2 => ?_)
        · (repeat (first | with_reducible exact hHeld | with_reducible exact Below.refl _ _ | with_reducible refine bextm ?_ (by first | omega | (simp [ext_size, World.setCell] <;> omega)) _ _ | with_reducible refine below_drewN ?_ _ | with_reducible refine Below.drew ?_ | with_reducible refine Below.alloc ?_ (by first | omega | (simp [ext_size, World.setCell] <;> omega)) _ | with_reducible refine Below.setCell ?_ (by first | omega | (simp [ext_size, World.setCell] <;> omega)) _))
        clear hK K hHeld
        have hHeld := hHeld2
        clear hHeld2
        try simp only [Act.put, List.setIfInBounds_toArray, List.set_cons_zero, List.set_cons_succ]
        refine wpAnyH_take (i := 8) (oi := { dst := some 107, op := Op.build 30 #[(0, Operand.tmp 101), (1, Operand.tmp 104), (2, Operand.tmp 106)], type := 30, pos := "law.go:112", after := #[{ on := 2, ground := Ground.data }, { on := 5, ground := Ground.data }, { on := 7, ground := Ground.data }], guard := none }) (v := ?_) rfl (by kernel_rfl) (by kernel_rfl) (by kernel_rfl) (fun _ _ _ h => h) (Or.inl ⟨by rfl, ?_⟩) (by assumption) ?_
        rotate_left
        · (intro w hSw; (try dsimp only at hSw); go_simp; have q0 := (Below.cell hSw (p := ⟨bD, 0, none⟩) zs0).trans k0; have q1 := (Below.cell hSw (p := ⟨bD, 1, none⟩) zs0).trans k1; have q2 := (Below.cell hSw (p := ⟨bD, 2, none⟩) zs0).trans k2; have q3 := (Below.cell hSw (p := ⟨bD, 3, none⟩) zs0).trans k3; have q4 := (Below.cell hSw (p := ⟨bD, 4, none⟩) zs0).trans k4; have q5 := (Below.cell hSw (p := ⟨bD, 5, none⟩) zs0).trans k5; (try simp [*]); (try with_reducible rfl))
        try simp only [Act.put, List.setIfInBounds_toArray, List.set_cons_zero, List.set_cons_succ]
        refine wpAnyH_ready (rs := [9]) (by kernel_rfl) (by simp) ?_
        refine AllReadyH.cons (o := { dst := some 15, op := Op.alloc 30, type := 0, pos := "law.go:112", after := #[], guard := none }) rfl (fun K hK => ?_) ?_
        · go_simp
          refine hK.out _ _ ?_ (fun hHeld2 => ?_)
          · (repeat (first | with_reducible exact hHeld | with_reducible exact Below.refl _ _ | with_reducible refine bextm ?_ (by first | omega | (simp [ext_size, World.setCell] <;> omega)) _ _ | with_reducible refine below_drewN ?_ _ | with_reducible refine Below.drew ?_ | with_reducible refine Below.alloc ?_ (by first | omega | (simp [ext_size, World.setCell] <;> omega)) _ | with_reducible refine Below.setCell ?_ (by first | omega | (simp [ext_size, World.setCell] <;> omega)) _))
          clear hK K hHeld
          have hHeld := hHeld2
          clear hHeld2
          try simp only [Act.put, List.setIfInBounds_toArray, List.set_cons_zero, List.set_cons_succ]
          refine wpAnyH_ready (rs := [10]) (by kernel_rfl) (by simp) ?_
          refine AllReadyH.cons (o := { dst := none, op := Op.store 30 (Operand.tmp 15) (Operand.tmp 107), type := 0, pos := "law.go:112", after := #[{ on := 9, ground := Ground.data }, { on := 8, ground := Ground.data }, { on := 5, ground := Ground.chain }, { on := 0, ground := Ground.phase }, { on := 1, ground := Ground.phase }, { on := 2, ground := Ground.phase }, { on := 3, ground := Ground.phase }, { on := 4, ground := Ground.phase }, { on := 5, ground := Ground.phase }, { on := 6, ground := Ground.phase }, { on := 7, ground := Ground.phase }, { on := 8, ground := Ground.phase }, { on := 9, ground := Ground.phase }], guard := none }) rfl (fun K hK => ?_) ?_
          · go_simp
            refine hK.out _ _ ?_ (fun hHeld2 => ?_)
            · (repeat (first | with_reducible exact hHeld | with_reducible exact Below.refl _ _ | with_reducible refine bextm ?_ (by first | omega | (simp [ext_size, World.setCell] <;> omega)) _ _ | with_reducible refine below_drewN ?_ _ | with_reducible refine Below.drew ?_ | with_reducible refine Below.alloc ?_ (by first | omega | (simp [ext_size, World.setCell] <;> omega)) _ | with_reducible refine Below.setCell ?_ (by first | omega | (simp [ext_size, World.setCell] <;> omega)) _))
            clear hK K hHeld
            have hHeld := hHeld2
            clear hHeld2
            try simp only [Act.put, List.setIfInBounds_toArray, List.set_cons_zero, List.set_cons_succ]
            refine wpAnyH_done (by kernel_rfl) ?_ _
            go_wp2_with fail
            go_meet
            exact ⟨_, rfl, ⟨by (simp (maxDischargeDepth := 8) [go_sem, World.cell?_alloc_past, ltk2, ltk3, ltk4, ltk5, ltk6, ltk7, ltk8, ltk9, *]), by (simp (maxDischargeDepth := 8) [go_sem, World.cell?_alloc_past, ltk2, ltk3, ltk4, ltk5, ltk6, ltk7, ltk8, ltk9, *]), by (simp (maxDischargeDepth := 8) [go_sem, World.cell?_alloc_past, ltk2, ltk3, ltk4, ltk5, ltk6, ltk7, ltk8, ltk9, *]), by (simp (maxDischargeDepth := 8) [go_sem, World.cell?_alloc_past, ltk2, ltk3, ltk4, ltk5, ltk6, ltk7, ltk8, ltk9, *]), by (simp (maxDischargeDepth := 8) [go_sem, World.cell?_alloc_past, ltk2, ltk3, ltk4, ltk5, ltk6, ltk7, ltk8, ltk9, *]), by (simp (maxDischargeDepth := 8) [go_sem, World.cell?_alloc_past, ltk2, ltk3, ltk4, ltk5, ltk6, ltk7, ltk8, ltk9, *])⟩, (by first | omega | (simp [ext_size, World.setCell] <;> omega)), hHeld⟩
          exact AllReadyH.nil
        exact AllReadyH.nil
      refine AllReadyH.cons (o := { dst := some 15, op := Op.alloc 30, type := 0, pos := "law.go:112", after := #[], guard := none }) rfl (fun K hK => ?_) ?_
      · go_simp
        refine hK.out _ _ ?_ (fun hHeld2 => ?_)
        · (repeat (first | with_reducible exact hHeld | with_reducible exact Below.refl _ _ | with_reducible refine bextm ?_ (by first | omega | (simp [ext_size, World.setCell] <;> omega)) _ _ | with_reducible refine below_drewN ?_ _ | with_reducible refine Below.drew ?_ | with_reducible refine Below.alloc ?_ (by first | omega | (simp [ext_size, World.setCell] <;> omega)) _ | with_reducible refine Below.setCell ?_ (by first | omega | (simp [ext_size, World.setCell] <;> omega)) _))
        clear hK K hHeld
        have hHeld := hHeld2
        clear hHeld2
        try simp only [Act.put, List.setIfInBounds_toArray, List.set_cons_zero, List.set_cons_succ]
        refine wpAnyH_ready (rs := [5]) (by kernel_rfl) (by simp) ?_
        refine AllReadyH.cons (o := { dst := some 104, op := Op.call { callee := Callee.value (Operand.func 23), args := #[Operand.tmp 103], argTypes := #[28] }, type := 28, pos := "law.go:112", after := #[{ on := 4, ground := Ground.data }, { on := 2, ground := Ground.chain }], guard := none }) rfl (fun K hK => ?_) ?_
        · go_simp
          with_reducible refine (N2 _).mono ?_
          rintro e w9 ⟨rfl, hb9⟩
          obtain ⟨l9, d9, rfl⟩ := toExt hb9
          clear hb9
          (try go_wp2_with fail)
          refine hK.out _ _ ?_ (fun hHeld2 => ?_)
          · (repeat (first | with_reducible exact hHeld | with_reducible exact Below.refl _ _ | with_reducible refine bextm ?_ (by first | omega | (simp [ext_size, World.setCell] <;> omega)) _ _ | with_reducible refine below_drewN ?_ _ | with_reducible refine Below.drew ?_ | with_reducible refine Below.alloc ?_ (by first | omega | (simp [ext_size, World.setCell] <;> omega)) _ | with_reducible refine Below.setCell ?_ (by first | omega | (simp [ext_size, World.setCell] <;> omega)) _))
          clear hK K hHeld
          have hHeld := hHeld2
          clear hHeld2
          try simp only [Act.put, List.setIfInBounds_toArray, List.set_cons_zero, List.set_cons_succ]
          refine wpAnyH_take (i := 8) (oi := { dst := some 107, op := Op.build 30 #[(0, Operand.tmp 101), (1, Operand.tmp 104), (2, Operand.tmp 106)], type := 30, pos := "law.go:112", after := #[{ on := 2, ground := Ground.data }, { on := 5, ground := Ground.data }, { on := 7, ground := Ground.data }], guard := none }) (v := ?_) rfl (by kernel_rfl) (by kernel_rfl) (by kernel_rfl) (fun _ _ _ h => h) (Or.inl ⟨by rfl, ?_⟩) (by assumption) ?_
          rotate_left
          · (intro w hSw; (try dsimp only at hSw); go_simp; have q0 := (Below.cell hSw (p := ⟨bD, 0, none⟩) zs0).trans k0; have q1 := (Below.cell hSw (p := ⟨bD, 1, none⟩) zs0).trans k1; have q2 := (Below.cell hSw (p := ⟨bD, 2, none⟩) zs0).trans k2; have q3 := (Below.cell hSw (p := ⟨bD, 3, none⟩) zs0).trans k3; have q4 := (Below.cell hSw (p := ⟨bD, 4, none⟩) zs0).trans k4; have q5 := (Below.cell hSw (p := ⟨bD, 5, none⟩) zs0).trans k5; (try simp [*]); (try with_reducible rfl))
          try simp only [Act.put, List.setIfInBounds_toArray, List.set_cons_zero, List.set_cons_succ]
          refine wpAnyH_ready (rs := [10]) (by kernel_rfl) (by simp) ?_
          refine AllReadyH.cons (o := { dst := none, op := Op.store 30 (Operand.tmp 15) (Operand.tmp 107), type := 0, pos := "law.go:112", after := #[{ on := 9, ground := Ground.data }, { on := 8, ground := Ground.data }, { on := 5, ground := Ground.chain }, { on := 0, ground := Ground.phase }, { on := 1, ground := Ground.phase }, { on := 2, ground := Ground.phase }, { on := 3, ground := Ground.phase }, { on := 4, ground := Ground.phase }, { on := 5, ground := Ground.phase }, { on := 6, ground := Ground.phase }, { on := 7, ground := Ground.phase }, { on := 8, ground := Ground.phase }, { on := 9, ground := Ground.phase }], guard := none }) rfl (fun K hK => ?_) ?_
          · go_simp
            refine hK.out _ _ ?_ (fun hHeld2 => ?_)
            · (repeat (first | with_reducible exact hHeld | with_reducible exact Below.refl _ _ | with_reducible refine bextm ?_ (by first | omega | (simp [ext_size, World.setCell] <;> omega)) _ _ | with_reducible refine below_drewN ?_ _ | with_reducible refine Below.drew ?_ | with_reducible refine Below.alloc ?_ (by first | omega | (simp [ext_size, World.setCell] <;> omega)) _ | with_reducible refine Below.setCell ?_ (by first | omega | (simp [ext_size, World.setCell] <;> omega)) _))
            clear hK K hHeld
            have hHeld := hHeld2
            clear hHeld2
            try simp only [Act.put, List.setIfInBounds_toArray, List.set_cons_zero, List.set_cons_succ]
            refine wpAnyH_done (by kernel_rfl) ?_ _
            go_wp2_with fail
            go_meet
            exact ⟨_, rfl, ⟨by (simp (maxDischargeDepth := 8) [go_sem, World.cell?_alloc_past, ltk2, ltk3, ltk4, ltk5, ltk6, ltk7, ltk8, ltk9, *]), by (simp (maxDischargeDepth := 8) [go_sem, World.cell?_alloc_past, ltk2, ltk3, ltk4, ltk5, ltk6, ltk7, ltk8, ltk9, *]), by (simp (maxDischargeDepth := 8) [go_sem, World.cell?_alloc_past, ltk2, ltk3, ltk4, ltk5, ltk6, ltk7, ltk8, ltk9, *]), by (simp (maxDischargeDepth := 8) [go_sem, World.cell?_alloc_past, ltk2, ltk3, ltk4, ltk5, ltk6, ltk7, ltk8, ltk9, *]), by (simp (maxDischargeDepth := 8) [go_sem, World.cell?_alloc_past, ltk2, ltk3, ltk4, ltk5, ltk6, ltk7, ltk8, ltk9, *]), by (simp (maxDischargeDepth := 8) [go_sem, World.cell?_alloc_past, ltk2, ltk3, ltk4, ltk5, ltk6, ltk7, ltk8, ltk9, *])⟩, (by first | omega | (simp [ext_size, World.setCell] <;> omega)), hHeld⟩
          exact AllReadyH.nil
        exact AllReadyH.nil
      exact AllReadyH.nil
    refine AllReadyH.cons (o := { dst := some 15, op := Op.alloc 30, type := 0, pos := "law.go:112", after := #[], guard := none }) rfl (fun K hK => ?_) ?_
    · go_simp
      refine hK.out _ _ ?_ (fun hHeld2 => ?_)
      · (repeat (first | with_reducible exact hHeld | with_reducible exact Below.refl _ _ | with_reducible refine bextm ?_ (by first | omega | (simp [ext_size, World.setCell] <;> omega)) _ _ | with_reducible refine below_drewN ?_ _ | with_reducible refine Below.drew ?_ | with_reducible refine Below.alloc ?_ (by first | omega | (simp [ext_size, World.setCell] <;> omega)) _ | with_reducible refine Below.setCell ?_ (by first | omega | (simp [ext_size, World.setCell] <;> omega)) _))
      clear hK K hHeld
      have hHeld := hHeld2
      clear hHeld2
      try simp only [Act.put, List.setIfInBounds_toArray, List.set_cons_zero, List.set_cons_succ]
      refine wpAnyH_ready (rs := [2]) (by kernel_rfl) (by simp) ?_
      refine AllReadyH.cons (o := { dst := some 101, op := Op.call { callee := Callee.value (Operand.func 23), args := #[Operand.tmp 100], argTypes := #[28] }, type := 28, pos := "law.go:112", after := #[{ on := 1, ground := Ground.data }], guard := none }) rfl (fun K hK => ?_) ?_
      · go_simp
        with_reducible refine (N1 _).mono ?_
        rintro e w9 ⟨rfl, hb9⟩
        obtain ⟨l9, d9, rfl⟩ := toExt hb9
        clear hb9
        (try go_wp2_with fail)
        refine hK.out _ _ ?_ (fun hHeld2 => ?_)
        · (repeat (first | with_reducible exact hHeld | with_reducible exact Below.refl _ _ | with_reducible refine bextm ?_ (by first | omega | (simp [ext_size, World.setCell] <;> omega)) _ _ | with_reducible refine below_drewN ?_ _ | with_reducible refine Below.drew ?_ | with_reducible refine Below.alloc ?_ (by first | omega | (simp [ext_size, World.setCell] <;> omega)) _ | with_reducible refine Below.setCell ?_ (by first | omega | (simp [ext_size, World.setCell] <;> omega)) _))
        clear hK K hHeld
        have hHeld := hHeld2
        clear hHeld2
        try simp only [Act.put, List.setIfInBounds_toArray, List.set_cons_zero, List.set_cons_succ]
        refine wpAnyH_ready (rs := [5]) (by kernel_rfl) (by simp) ?_
        refine AllReadyH.cons (o := { dst := some 104, op := Op.call { callee := Callee.value (Operand.func 23), args := #[Operand.tmp 103], argTypes := #[28] }, type := 28, pos := "law.go:112", after := #[{ on := 4, ground := Ground.data }, { on := 2, ground := Ground.chain }], guard := none }) rfl (fun K hK => ?_) ?_
        · go_simp
          with_reducible refine (N2 _).mono ?_
          rintro e w9 ⟨rfl, hb9⟩
          obtain ⟨l9, d9, rfl⟩ := toExt hb9
          clear hb9
          (try go_wp2_with fail)
          refine hK.out _ _ ?_ (fun hHeld2 => ?_)
          · (repeat (first | with_reducible exact hHeld | with_reducible exact Below.refl _ _ | with_reducible refine bextm ?_ (by first | omega | (simp [ext_size, World.setCell] <;> omega)) _ _ | with_reducible refine below_drewN ?_ _ | with_reducible refine Below.drew ?_ | with_reducible refine Below.alloc ?_ (by first | omega | (simp [ext_size, World.setCell] <;> omega)) _ | with_reducible refine Below.setCell ?_ (by first | omega | (simp [ext_size, World.setCell] <;> omega)) _))
          clear hK K hHeld
          have hHeld := hHeld2
          clear hHeld2
          try simp only [Act.put, List.setIfInBounds_toArray, List.set_cons_zero, List.set_cons_succ]
          refine wpAnyH_take (i := 8) (oi := { dst := some 107, op := Op.build 30 #[(0, Operand.tmp 101), (1, Operand.tmp 104), (2, Operand.tmp 106)], type := 30, pos := "law.go:112", after := #[{ on := 2, ground := Ground.data }, { on := 5, ground := Ground.data }, { on := 7, ground := Ground.data }], guard := none }) (v := ?_) rfl (by kernel_rfl) (by kernel_rfl) (by kernel_rfl) (fun _ _ _ h => h) (Or.inl ⟨by rfl, ?_⟩) (by assumption) ?_
          rotate_left
          · (intro w hSw; (try dsimp only at hSw); go_simp; have q0 := (Below.cell hSw (p := ⟨bD, 0, none⟩) zs0).trans k0; have q1 := (Below.cell hSw (p := ⟨bD, 1, none⟩) zs0).trans k1; have q2 := (Below.cell hSw (p := ⟨bD, 2, none⟩) zs0).trans k2; have q3 := (Below.cell hSw (p := ⟨bD, 3, none⟩) zs0).trans k3; have q4 := (Below.cell hSw (p := ⟨bD, 4, none⟩) zs0).trans k4; have q5 := (Below.cell hSw (p := ⟨bD, 5, none⟩) zs0).trans k5; (try simp [*]); (try with_reducible rfl))
          try simp only [Act.put, List.setIfInBounds_toArray, List.set_cons_zero, List.set_cons_succ]
          refine wpAnyH_ready (rs := [10]) (by kernel_rfl) (by simp) ?_
          refine AllReadyH.cons (o := { dst := none, op := Op.store 30 (Operand.tmp 15) (Operand.tmp 107), type := 0, pos := "law.go:112", after := #[{ on := 9, ground := Ground.data }, { on := 8, ground := Ground.data }, { on := 5, ground := Ground.chain }, { on := 0, ground := Ground.phase }, { on := 1, ground := Ground.phase }, { on := 2, ground := Ground.phase }, { on := 3, ground := Ground.phase }, { on := 4, ground := Ground.phase }, { on := 5, ground := Ground.phase }, { on := 6, ground := Ground.phase }, { on := 7, ground := Ground.phase }, { on := 8, ground := Ground.phase }, { on := 9, ground := Ground.phase }], guard := none }) rfl (fun K hK => ?_) ?_
          · go_simp
            refine hK.out _ _ ?_ (fun hHeld2 => ?_)
            · (repeat (first | with_reducible exact hHeld | with_reducible exact Below.refl _ _ | with_reducible refine bextm ?_ (by first | omega | (simp [ext_size, World.setCell] <;> omega)) _ _ | with_reducible refine below_drewN ?_ _ | with_reducible refine Below.drew ?_ | with_reducible refine Below.alloc ?_ (by first | omega | (simp [ext_size, World.setCell] <;> omega)) _ | with_reducible refine Below.setCell ?_ (by first | omega | (simp [ext_size, World.setCell] <;> omega)) _))
            clear hK K hHeld
            have hHeld := hHeld2
            clear hHeld2
            try simp only [Act.put, List.setIfInBounds_toArray, List.set_cons_zero, List.set_cons_succ]
            refine wpAnyH_done (by kernel_rfl) ?_ _
            go_wp2_with fail
            go_meet
            exact ⟨_, rfl, ⟨by (simp (maxDischargeDepth := 8) [go_sem, World.cell?_alloc_past, ltk2, ltk3, ltk4, ltk5, ltk6, ltk7, ltk8, ltk9, *]), by (simp (maxDischargeDepth := 8) [go_sem, World.cell?_alloc_past, ltk2, ltk3, ltk4, ltk5, ltk6, ltk7, ltk8, ltk9, *]), by (simp (maxDischargeDepth := 8) [go_sem, World.cell?_alloc_past, ltk2, ltk3, ltk4, ltk5, ltk6, ltk7, ltk8, ltk9, *]), by (simp (maxDischargeDepth := 8) [go_sem, World.cell?_alloc_past, ltk2, ltk3, ltk4, ltk5, ltk6, ltk7, ltk8, ltk9, *]), by (simp (maxDischargeDepth := 8) [go_sem, World.cell?_alloc_past, ltk2, ltk3, ltk4, ltk5, ltk6, ltk7, ltk8, ltk9, *]), by (simp (maxDischargeDepth := 8) [go_sem, World.cell?_alloc_past, ltk2, ltk3, ltk4, ltk5, ltk6, ltk7, ltk8, ltk9, *])⟩, (by first | omega | (simp [ext_size, World.setCell] <;> omega)), hHeld⟩
          exact AllReadyH.nil
        exact AllReadyH.nil
      exact AllReadyH.nil
    exact AllReadyH.nil
  case rest =>
    obtain ⟨b, rfl, ⟨m0, m1, m2, m3, m4, m5⟩, zb, hBc⟩ := hcut
    have n0 : wc.cell? ⟨bD, 0, none⟩ = some (.int .i64 x1) := (hBc.cell (p := ⟨bD, 0, none⟩) zs0).trans k0
    have n1 : wc.cell? ⟨bD, 1, none⟩ = some (.int .i64 x2) := (hBc.cell (p := ⟨bD, 1, none⟩) zs0).trans k1
    have n2 : wc.cell? ⟨bD, 2, none⟩ = some (.int .i64 y1) := (hBc.cell (p := ⟨bD, 2, none⟩) zs0).trans k2
    have n3 : wc.cell? ⟨bD, 3, none⟩ = some (.int .i64 y2) := (hBc.cell (p := ⟨bD, 3, none⟩) zs0).trans k3
    have n4 : wc.cell? ⟨bD, 4, none⟩ = some (.int .i64 z1) := (hBc.cell (p := ⟨bD, 4, none⟩) zs0).trans k4
    have n5 : wc.cell? ⟨bD, 5, none⟩ = some (.int .i64 z2) := (hBc.cell (p := ⟨bD, 5, none⟩) zs0).trans k5
    have n6 : wc.cell? ⟨bQ, 0, none⟩ = some (.int .i64 y1) := (hBc.cell (p := ⟨bQ, 0, none⟩) zs1).trans k6
    have n7 : wc.cell? ⟨bQ, 1, none⟩ = some (.int .i64 y2) := (hBc.cell (p := ⟨bQ, 1, none⟩) zs1).trans k7
    have n8 : wc.cell? ⟨bQ, 2, none⟩ = some (.int .i64 (-x2)) := (hBc.cell (p := ⟨bQ, 2, none⟩) zs1).trans k8
    have n9 : wc.cell? ⟨bQ, 3, none⟩ = some (.int .i64 (-x1)) := (hBc.cell (p := ⟨bQ, 3, none⟩) zs1).trans k9
    have n10 : wc.cell? ⟨bQ, 4, none⟩ = some (.int .i64 z1) := (hBc.cell (p := ⟨bQ, 4, none⟩) zs1).trans k10
    have n11 : wc.cell? ⟨bQ, 5, none⟩ = some (.int .i64 z2) := (hBc.cell (p := ⟨bQ, 5, none⟩) zs1).trans k11
    have n12 : wc.cell? ⟨g, 0, none⟩ = some (.int .i64 x1) := (hBc.cell (p := ⟨g, 0, none⟩) zs2).trans k12
    have n13 : wc.cell? ⟨g, 1, none⟩ = some (.int .i64 x2) := (hBc.cell (p := ⟨g, 1, none⟩) zs2).trans k13
    have n14 : wc.cell? ⟨g, 2, none⟩ = some (.int .i64 y1) := (hBc.cell (p := ⟨g, 2, none⟩) zs2).trans k14
    have n15 : wc.cell? ⟨g, 3, none⟩ = some (.int .i64 y2) := (hBc.cell (p := ⟨g, 3, none⟩) zs2).trans k15
    have n16 : wc.cell? ⟨g, 4, none⟩ = some (.int .i64 z1) := (hBc.cell (p := ⟨g, 4, none⟩) zs2).trans k16
    have n17 : wc.cell? ⟨g, 5, none⟩ = some (.int .i64 z2) := (hBc.cell (p := ⟨g, 5, none⟩) zs2).trans k17
    have n18 : wc.cell? ⟨g, 6, none⟩ = some (.int .i64 y1) := (hBc.cell (p := ⟨g, 6, none⟩) zs2).trans k18
    have n19 : wc.cell? ⟨g, 7, none⟩ = some (.int .i64 y2) := (hBc.cell (p := ⟨g, 7, none⟩) zs2).trans k19
    have n20 : wc.cell? ⟨g, 8, none⟩ = some (.int .i64 (-x2)) := (hBc.cell (p := ⟨g, 8, none⟩) zs2).trans k20
    have n21 : wc.cell? ⟨g, 9, none⟩ = some (.int .i64 (-x1)) := (hBc.cell (p := ⟨g, 9, none⟩) zs2).trans k21
    have n22 : wc.cell? ⟨g, 10, none⟩ = some (.int .i64 z1) := (hBc.cell (p := ⟨g, 10, none⟩) zs2).trans k22
    have n23 : wc.cell? ⟨g, 11, none⟩ = some (.int .i64 z2) := (hBc.cell (p := ⟨g, 11, none⟩) zs2).trans k23
    have n24 : wc.cell? ⟨g, 12, none⟩ = some (.int .i64 (-x2)) := (hBc.cell (p := ⟨g, 12, none⟩) zs2).trans k24
    have n25 : wc.cell? ⟨g, 13, none⟩ = some (.int .i64 (-x1)) := (hBc.cell (p := ⟨g, 13, none⟩) zs2).trans k25
    have n26 : wc.cell? ⟨g, 14, none⟩ = some (.int .i64 (-y2)) := (hBc.cell (p := ⟨g, 14, none⟩) zs2).trans k26
    have n27 : wc.cell? ⟨g, 15, none⟩ = some (.int .i64 (-y1)) := (hBc.cell (p := ⟨g, 15, none⟩) zs2).trans k27
    have n28 : wc.cell? ⟨g, 16, none⟩ = some (.int .i64 z1) := (hBc.cell (p := ⟨g, 16, none⟩) zs2).trans k28
    have n29 : wc.cell? ⟨g, 17, none⟩ = some (.int .i64 z2) := (hBc.cell (p := ⟨g, 17, none⟩) zs2).trans k29
    have n30 : wc.cell? ⟨g, 24, none⟩ = some (.int .i64 x1) := (hBc.cell (p := ⟨g, 24, none⟩) zs2).trans k30
    have n31 : wc.cell? ⟨g, 25, none⟩ = some (.int .i64 x2) := (hBc.cell (p := ⟨g, 25, none⟩) zs2).trans k31
    have n32 : wc.cell? ⟨g, 26, none⟩ = some (.int .i64 y1) := (hBc.cell (p := ⟨g, 26, none⟩) zs2).trans k32
    have n33 : wc.cell? ⟨g, 27, none⟩ = some (.int .i64 y2) := (hBc.cell (p := ⟨g, 27, none⟩) zs2).trans k33
    have n34 : wc.cell? ⟨g, 28, none⟩ = some (.int .i64 z1) := (hBc.cell (p := ⟨g, 28, none⟩) zs2).trans k34
    have n35 : wc.cell? ⟨g, 29, none⟩ = some (.int .i64 z2) := (hBc.cell (p := ⟨g, 29, none⟩) zs2).trans k35
    have yy0 : bD < wc.heap.size := Nat.lt_of_lt_of_le zs0 hBc.size
    have yy1 : bQ < wc.heap.size := Nat.lt_of_lt_of_le zs1 hBc.size
    have yy2 : g < wc.heap.size := Nat.lt_of_lt_of_le zs2 hBc.size
    have hBw : Below w.heap.size w wc := Below.trans hB (hBc.mono zx)
    clear hBc hB zx zs0 zs1 zs2 k0 k1 k2 k3 k4 k5 k6 k7 k8 k9 k10 k11 k12 k13 k14 k15 k16 k17 k18 k19 k20 k21 k22 k23 k24 k25 k26 k27 k28 k29 k30 k31 k32 k33 k34 k35
    go_upto_region 11 with fail
    refine wp_region_held_drew (S := (fun w' => (w'.cell? ⟨bD, 0, none⟩ = some (.int .i64 x1) ∧ w'.cell? ⟨bD, 1, none⟩ = some (.int .i64 x2) ∧ w'.cell? ⟨bD, 2, none⟩ = some (.int .i64 y1) ∧ w'.cell? ⟨bD, 3, none⟩ = some (.int .i64 y2) ∧ w'.cell? ⟨bD, 4, none⟩ = some (.int .i64 z1) ∧ w'.cell? ⟨bD, 5, none⟩ = some (.int .i64 z2) ∧ w'.cell? ⟨bQ, 0, none⟩ = some (.int .i64 y1) ∧ w'.cell? ⟨bQ, 1, none⟩ = some (.int .i64 y2) ∧ w'.cell? ⟨bQ, 2, none⟩ = some (.int .i64 (-x2)) ∧ w'.cell? ⟨bQ, 3, none⟩ = some (.int .i64 (-x1)) ∧ w'.cell? ⟨bQ, 4, none⟩ = some (.int .i64 z1) ∧ w'.cell? ⟨bQ, 5, none⟩ = some (.int .i64 z2) ∧ w'.cell? ⟨g, 0, none⟩ = some (.int .i64 x1) ∧ w'.cell? ⟨g, 1, none⟩ = some (.int .i64 x2) ∧ w'.cell? ⟨g, 2, none⟩ = some (.int .i64 y1) ∧ w'.cell? ⟨g, 3, none⟩ = some (.int .i64 y2) ∧ w'.cell? ⟨g, 4, none⟩ = some (.int .i64 z1) ∧ w'.cell? ⟨g, 5, none⟩ = some (.int .i64 z2) ∧ w'.cell? ⟨g, 6, none⟩ = some (.int .i64 y1) ∧ w'.cell? ⟨g, 7, none⟩ = some (.int .i64 y2) ∧ w'.cell? ⟨g, 8, none⟩ = some (.int .i64 (-x2)) ∧ w'.cell? ⟨g, 9, none⟩ = some (.int .i64 (-x1)) ∧ w'.cell? ⟨g, 10, none⟩ = some (.int .i64 z1) ∧ w'.cell? ⟨g, 11, none⟩ = some (.int .i64 z2) ∧ w'.cell? ⟨g, 12, none⟩ = some (.int .i64 (-x2)) ∧ w'.cell? ⟨g, 13, none⟩ = some (.int .i64 (-x1)) ∧ w'.cell? ⟨g, 14, none⟩ = some (.int .i64 (-y2)) ∧ w'.cell? ⟨g, 15, none⟩ = some (.int .i64 (-y1)) ∧ w'.cell? ⟨g, 16, none⟩ = some (.int .i64 z1) ∧ w'.cell? ⟨g, 17, none⟩ = some (.int .i64 z2) ∧ w'.cell? ⟨g, 24, none⟩ = some (.int .i64 x1) ∧ w'.cell? ⟨g, 25, none⟩ = some (.int .i64 x2) ∧ w'.cell? ⟨g, 26, none⟩ = some (.int .i64 y1) ∧ w'.cell? ⟨g, 27, none⟩ = some (.int .i64 y2) ∧ w'.cell? ⟨g, 28, none⟩ = some (.int .i64 z1) ∧ w'.cell? ⟨g, 29, none⟩ = some (.int .i64 z2) ∧ w'.cell? ⟨b, 0, none⟩ = some (.int .i64 (-x2)) ∧ w'.cell? ⟨b, 1, none⟩ = some (.int .i64 (-x1)) ∧ w'.cell? ⟨b, 2, none⟩ = some (.int .i64 (-y2)) ∧ w'.cell? ⟨b, 3, none⟩ = some (.int .i64 (-y1)) ∧ w'.cell? ⟨b, 4, none⟩ = some (.int .i64 z1) ∧ w'.cell? ⟨b, 5, none⟩ = some (.int .i64 z2)) ∧ (bD < w'.heap.size ∧ bQ < w'.heap.size ∧ g < w'.heap.size ∧ b < w'.heap.size) ∧ Below w.heap.size w w')) (by kernel_rfl) ?_ (fun hHeld => ?_)
    · exact ⟨⟨n0, n1, n2, n3, n4, n5, n6, n7, n8, n9, n10, n11, n12, n13, n14, n15, n16, n17, n18, n19, n20, n21, n22, n23, n24, n25, n26, n27, n28, n29, n30, n31, n32, n33, n34, n35, m0, m1, m2, m3, m4, m5⟩, ⟨yy0, yy1, yy2, zb⟩, Below.drew hBw⟩
    refine wpAnyH_take (i := 0) (oi := { dst := some 108, op := Op.load 30 (Operand.tmp 11), type := 30, pos := "law.go:113", after := #[], guard := none }) (v := ?_) rfl (by kernel_rfl) (by kernel_rfl) (by kernel_rfl) (fun _ _ _ h => h) (Or.inl ⟨by rfl, ?_⟩) (by assumption) ?_
    rotate_left
    · (intro w hSw; (try dsimp only at hSw); go_simp; (try simp [*]); (try with_reducible rfl))
    try simp only [Act.put, List.setIfInBounds_toArray, List.set_cons_zero, List.set_cons_succ]
    refine wpAnyH_take (i := 1) (oi := { dst := some 109, op := Op.fieldAddr 30 (Operand.tmp 5) 1, type := 0, pos := "law.go:113", after := #[], guard := none }) (v := ?_) rfl (by kernel_rfl) (by kernel_rfl) (by kernel_rfl) (fun _ _ _ h => h) (Or.inl ⟨by rfl, ?_⟩) (by assumption) ?_
    rotate_left
    · (intro w hSw; (try dsimp only at hSw); go_simp; (try simp [*]); (try with_reducible rfl))
    try simp only [Act.put, List.setIfInBounds_toArray, List.set_cons_zero, List.set_cons_succ]
    refine wpAnyH_take (i := 2) (oi := { dst := some 110, op := Op.load 28 (Operand.tmp 109), type := 28, pos := "law.go:113", after := #[{ on := 1, ground := Ground.data }], guard := none }) (v := ?_) rfl (by kernel_rfl) (by kernel_rfl) (by kernel_rfl) (fun _ _ _ h => h) (Or.inl ⟨by rfl, ?_⟩) (by assumption) ?_
    rotate_left
    · (intro w hSw; (try dsimp only at hSw); go_simp; (try simp [*]); (try with_reducible rfl))
    try simp only [Act.put, List.setIfInBounds_toArray, List.set_cons_zero, List.set_cons_succ]
    refine wpAnyH_take (i := 3) (oi := { dst := some 111, op := Op.fieldAddr 30 (Operand.tmp 5) 0, type := 0, pos := "law.go:113", after := #[], guard := none }) (v := ?_) rfl (by kernel_rfl) (by kernel_rfl) (by kernel_rfl) (fun _ _ _ h => h) (Or.inl ⟨by rfl, ?_⟩) (by assumption) ?_
    rotate_left
    · (intro w hSw; (try dsimp only at hSw); go_simp; (try simp [*]); (try with_reducible rfl))
    try simp only [Act.put, List.setIfInBounds_toArray, List.set_cons_zero, List.set_cons_succ]
    refine wpAnyH_take (i := 4) (oi := { dst := some 112, op := Op.load 28 (Operand.tmp 111), type := 28, pos := "law.go:113", after := #[{ on := 3, ground := Ground.data }], guard := none }) (v := ?_) rfl (by kernel_rfl) (by kernel_rfl) (by kernel_rfl) (fun _ _ _ h => h) (Or.inl ⟨by rfl, ?_⟩) (by assumption) ?_
    rotate_left
    · (intro w hSw; (try dsimp only at hSw); go_simp; (try simp [*]); (try with_reducible rfl))
    try simp only [Act.put, List.setIfInBounds_toArray, List.set_cons_zero, List.set_cons_succ]
    refine wpAnyH_take (i := 6) (oi := { dst := some 114, op := Op.fieldAddr 30 (Operand.tmp 5) 2, type := 0, pos := "law.go:113", after := #[], guard := none }) (v := ?_) rfl (by kernel_rfl) (by kernel_rfl) (by kernel_rfl) (fun _ _ _ h => h) (Or.inl ⟨by rfl, ?_⟩) (by assumption) ?_
    rotate_left
    · (intro w hSw; (try dsimp only at hSw); go_simp; (try simp [*]); (try with_reducible rfl))
    try simp only [Act.put, List.setIfInBounds_toArray, List.set_cons_zero, List.set_cons_succ]
    refine wpAnyH_take (i := 7) (oi := { dst := some 115, op := Op.load 28 (Operand.tmp 114), type := 28, pos := "law.go:113", after := #[{ on := 6, ground := Ground.data }], guard := none }) (v := ?_) rfl (by kernel_rfl) (by kernel_rfl) (by kernel_rfl) (fun _ _ _ h => h) (Or.inl ⟨by rfl, ?_⟩) (by assumption) ?_
    rotate_left
    · (intro w hSw; (try dsimp only at hSw); go_simp; (try simp [*]); (try with_reducible rfl))
    try simp only [Act.put, List.setIfInBounds_toArray, List.set_cons_zero, List.set_cons_succ]
    refine wpAnyH_ready (rs := [5]) (by kernel_rfl) (by simp) ?_
    refine AllReadyH.cons (o := { dst := some 113, op := Op.call { callee := Callee.value (Operand.func 23), args := #[Operand.tmp 112], argTypes := #[28] }, type := 28, pos := "law.go:113", after := #[{ on := 4, ground := Ground.data }], guard := none }) rfl (fun K hK => ?_) AllReadyH.nil
    go_simp
    with_reducible refine (N1 _).mono ?_
    rintro e w9 ⟨rfl, hb9⟩
    obtain ⟨l9, d9, rfl⟩ := toExt hb9
    clear hb9
    (try go_wp2_with fail)
    refine hK.out _ _ ?_ (fun hHeld2 => ?_)
    · (obtain ⟨⟨un0, un1, un2, un3, un4, un5, un6, un7, un8, un9, un10, un11, un12, un13, un14, un15, un16, un17, un18, un19, un20, un21, un22, un23, un24, un25, un26, un27, un28, un29, un30, un31, un32, un33, un34, un35, um0, um1, um2, um3, um4, um5⟩, ⟨uyy0, uyy1, uyy2, uzb⟩, uB⟩ := hHeld; exact ⟨⟨(ext_cell _ _ _ _ _ uyy0).trans un0, (ext_cell _ _ _ _ _ uyy0).trans un1, (ext_cell _ _ _ _ _ uyy0).trans un2, (ext_cell _ _ _ _ _ uyy0).trans un3, (ext_cell _ _ _ _ _ uyy0).trans un4, (ext_cell _ _ _ _ _ uyy0).trans un5, (ext_cell _ _ _ _ _ uyy1).trans un6, (ext_cell _ _ _ _ _ uyy1).trans un7, (ext_cell _ _ _ _ _ uyy1).trans un8, (ext_cell _ _ _ _ _ uyy1).trans un9, (ext_cell _ _ _ _ _ uyy1).trans un10, (ext_cell _ _ _ _ _ uyy1).trans un11, (ext_cell _ _ _ _ _ uyy2).trans un12, (ext_cell _ _ _ _ _ uyy2).trans un13, (ext_cell _ _ _ _ _ uyy2).trans un14, (ext_cell _ _ _ _ _ uyy2).trans un15, (ext_cell _ _ _ _ _ uyy2).trans un16, (ext_cell _ _ _ _ _ uyy2).trans un17, (ext_cell _ _ _ _ _ uyy2).trans un18, (ext_cell _ _ _ _ _ uyy2).trans un19, (ext_cell _ _ _ _ _ uyy2).trans un20, (ext_cell _ _ _ _ _ uyy2).trans un21, (ext_cell _ _ _ _ _ uyy2).trans un22, (ext_cell _ _ _ _ _ uyy2).trans un23, (ext_cell _ _ _ _ _ uyy2).trans un24, (ext_cell _ _ _ _ _ uyy2).trans un25, (ext_cell _ _ _ _ _ uyy2).trans un26, (ext_cell _ _ _ _ _ uyy2).trans un27, (ext_cell _ _ _ _ _ uyy2).trans un28, (ext_cell _ _ _ _ _ uyy2).trans un29, (ext_cell _ _ _ _ _ uyy2).trans un30, (ext_cell _ _ _ _ _ uyy2).trans un31, (ext_cell _ _ _ _ _ uyy2).trans un32, (ext_cell _ _ _ _ _ uyy2).trans un33, (ext_cell _ _ _ _ _ uyy2).trans un34, (ext_cell _ _ _ _ _ uyy2).trans un35, (ext_cell _ _ _ _ _ uzb).trans um0, (ext_cell _ _ _ _ _ uzb).trans um1, (ext_cell _ _ _ _ _ uzb).trans um2, (ext_cell _ _ _ _ _ uzb).trans um3, (ext_cell _ _ _ _ _ uzb).trans um4, (ext_cell _ _ _ _ _ uzb).trans um5⟩, ⟨ext_lt _ _ _ _ uyy0, ext_lt _ _ _ _ uyy1, ext_lt _ _ _ _ uyy2, ext_lt _ _ _ _ uzb⟩, bext uB _ _⟩)
    clear hK K hHeld
    have hHeld := hHeld2
    clear hHeld2
    try simp only [Act.put, List.setIfInBounds_toArray, List.set_cons_zero, List.set_cons_succ]
    refine wpAnyH_take (i := 8) (oi := { dst := some 116, op := Op.build 30 #[(0, Operand.tmp 110), (1, Operand.tmp 113), (2, Operand.tmp 115)], type := 30, pos := "law.go:113", after := #[{ on := 2, ground := Ground.data }, { on := 5, ground := Ground.data }, { on := 7, ground := Ground.data }], guard := none }) (v := ?_) rfl (by kernel_rfl) (by kernel_rfl) (by kernel_rfl) (fun _ _ _ h => h) (Or.inl ⟨by rfl, ?_⟩) (by assumption) ?_
    rotate_left
    · (intro w hSw; (try dsimp only at hSw); go_simp; (try simp [*]); (try with_reducible rfl))
    try simp only [Act.put, List.setIfInBounds_toArray, List.set_cons_zero, List.set_cons_succ]
    refine wpAnyH_take (i := 9) (oi := { dst := some 117, op := Op.binOp BinOp.eql 30 (Operand.tmp 108) (Operand.tmp 116) 30, type := 4, pos := "law.go:113", after := #[{ on := 0, ground := Ground.data }, { on := 8, ground := Ground.data }], guard := none }) (v := ?_) rfl (by kernel_rfl) (by kernel_rfl) (by kernel_rfl) (fun _ _ _ h => h) (Or.inl ⟨by rfl, ?_⟩) (by assumption) ?_
    rotate_left
    · (intro w hSw; (try dsimp only at hSw); go_simp; (try simp [*]); (try with_reducible rfl))
    try simp only [Act.put, List.setIfInBounds_toArray, List.set_cons_zero, List.set_cons_succ]
    refine wpAnyH_take (i := 10) (oi := { dst := some 118, op := Op.move (Operand.tmp 117), type := 4, pos := "law.go:113", after := #[{ on := 9, ground := Ground.data }, { on := 5, ground := Ground.chain }], guard := none }) (v := ?_) rfl (by kernel_rfl) (by kernel_rfl) (by kernel_rfl) (fun _ _ _ h => h) (Or.inl ⟨by rfl, ?_⟩) (by assumption) ?_
    rotate_left
    · (intro w hSw; (try dsimp only at hSw); go_simp; (try simp [*]); (try with_reducible rfl))
    try simp only [Act.put, List.setIfInBounds_toArray, List.set_cons_zero, List.set_cons_succ]
    refine wpAnyH_take (i := 11) (oi := { dst := some 119, op := Op.move (Operand.tmp 13), type := 33, pos := "law.go:113", after := #[{ on := 10, ground := Ground.guard }], guard := some (10, true) }) (v := ?_) rfl (by kernel_rfl) (by kernel_rfl) (by kernel_rfl) (fun _ _ _ h => h) (Or.inl ⟨by rfl, ?_⟩) (by assumption) ?_
    rotate_left
    · (intro w hSw; (try dsimp only at hSw); go_simp; (try simp [*]); (try with_reducible rfl))
    try simp only [Act.put, List.setIfInBounds_toArray, List.set_cons_zero, List.set_cons_succ]
    refine wpAnyH_take (i := 12) (oi := { dst := some 120, op := Op.indexAddr 33 (Operand.tmp 119) (Operand.const (Value.int IntKind.i64 0)), type := 0, pos := "law.go:113", after := #[{ on := 11, ground := Ground.data }, { on := 10, ground := Ground.guard }], guard := some (10, true) }) (v := ?_) rfl (by kernel_rfl) (by kernel_rfl) (by kernel_rfl) (fun _ _ _ h => h) (Or.inl ⟨by rfl, ?_⟩) (by assumption) ?_
    rotate_left
    · (intro w hSw; (try dsimp only at hSw); go_simp; (try simp [*]); (try with_reducible rfl))
    try simp only [Act.put, List.setIfInBounds_toArray, List.set_cons_zero, List.set_cons_succ]
    refine wpAnyH_take (i := 13) (oi := { dst := some 121, op := Op.load 30 (Operand.tmp 120), type := 30, pos := "law.go:113", after := #[{ on := 12, ground := Ground.data }, { on := 10, ground := Ground.guard }], guard := some (10, true) }) (v := ?_) rfl (by kernel_rfl) (by kernel_rfl) (by kernel_rfl) (fun _ _ _ h => h) (Or.inl ⟨by rfl, ?_⟩) (by assumption) ?_
    rotate_left
    · (intro w hSw; (try dsimp only at hSw); go_simp; (try simp [*]); (try with_reducible rfl))
    try simp only [Act.put, List.setIfInBounds_toArray, List.set_cons_zero, List.set_cons_succ]
    refine wpAnyH_take (i := 14) (oi := { dst := some 122, op := Op.load 30 (Operand.tmp 5), type := 30, pos := "law.go:113", after := #[{ on := 10, ground := Ground.guard }], guard := some (10, true) }) (v := ?_) rfl (by kernel_rfl) (by kernel_rfl) (by kernel_rfl) (fun _ _ _ h => h) (Or.inl ⟨by rfl, ?_⟩) (by assumption) ?_
    rotate_left
    · (intro w hSw; (try dsimp only at hSw); go_simp; (try simp [*]); (try with_reducible rfl))
    try simp only [Act.put, List.setIfInBounds_toArray, List.set_cons_zero, List.set_cons_succ]
    refine wpAnyH_take (i := 15) (oi := { dst := some 123, op := Op.binOp BinOp.eql 30 (Operand.tmp 121) (Operand.tmp 122) 30, type := 4, pos := "law.go:113", after := #[{ on := 13, ground := Ground.data }, { on := 14, ground := Ground.data }, { on := 10, ground := Ground.guard }], guard := some (10, true) }) (v := ?_) rfl (by kernel_rfl) (by kernel_rfl) (by kernel_rfl) (fun _ _ _ h => h) (Or.inl ⟨by rfl, ?_⟩) (by assumption) ?_
    rotate_left
    · (intro w hSw; (try dsimp only at hSw); go_simp; (try simp [*]); (try with_reducible rfl))
    try simp only [Act.put, List.setIfInBounds_toArray, List.set_cons_zero, List.set_cons_succ]
    refine wpAnyH_take (i := 16) (oi := { dst := some 124, op := Op.pick (Operand.tmp 118) (Operand.tmp 123) (Operand.const (Value.bool false)), type := 4, pos := "law.go:113", after := #[{ on := 10, ground := Ground.data }, { on := 15, ground := Ground.data }], guard := none }) (v := ?_) rfl (by kernel_rfl) (by kernel_rfl) (by kernel_rfl) (fun _ _ _ h => h) (Or.inl ⟨by rfl, ?_⟩) (by assumption) ?_
    rotate_left
    · (intro w hSw; (try dsimp only at hSw); go_simp; (try simp [*]); (try with_reducible rfl))
    try simp only [Act.put, List.setIfInBounds_toArray, List.set_cons_zero, List.set_cons_succ]
    refine wpAnyH_take (i := 17) (oi := { dst := some 125, op := Op.move (Operand.tmp 124), type := 4, pos := "law.go:113", after := #[{ on := 16, ground := Ground.data }, { on := 10, ground := Ground.chain }], guard := none }) (v := ?_) rfl (by kernel_rfl) (by kernel_rfl) (by kernel_rfl) (fun _ _ _ h => h) (Or.inl ⟨by rfl, ?_⟩) (by assumption) ?_
    rotate_left
    · (intro w hSw; (try dsimp only at hSw); go_simp; (try simp [*]); (try with_reducible rfl))
    try simp only [Act.put, List.setIfInBounds_toArray, List.set_cons_zero, List.set_cons_succ]
    refine wpAnyH_take (i := 18) (oi := { dst := some 126, op := Op.move (Operand.tmp 13), type := 33, pos := "law.go:113", after := #[{ on := 17, ground := Ground.guard }], guard := some (17, true) }) (v := ?_) rfl (by kernel_rfl) (by kernel_rfl) (by kernel_rfl) (fun _ _ _ h => h) (Or.inl ⟨by rfl, ?_⟩) (by assumption) ?_
    rotate_left
    · (intro w hSw; (try dsimp only at hSw); go_simp; (try simp [*]); (try with_reducible rfl))
    try simp only [Act.put, List.setIfInBounds_toArray, List.set_cons_zero, List.set_cons_succ]
    refine wpAnyH_take (i := 19) (oi := { dst := some 127, op := Op.indexAddr 33 (Operand.tmp 126) (Operand.const (Value.int IntKind.i64 1)), type := 0, pos := "law.go:113", after := #[{ on := 18, ground := Ground.data }, { on := 17, ground := Ground.guard }], guard := some (17, true) }) (v := ?_) rfl (by kernel_rfl) (by kernel_rfl) (by kernel_rfl) (fun _ _ _ h => h) (Or.inl ⟨by rfl, ?_⟩) (by assumption) ?_
    rotate_left
    · (intro w hSw; (try dsimp only at hSw); go_simp; (try simp [*]); (try with_reducible rfl))
    try simp only [Act.put, List.setIfInBounds_toArray, List.set_cons_zero, List.set_cons_succ]
    refine wpAnyH_take (i := 20) (oi := { dst := some 128, op := Op.load 30 (Operand.tmp 127), type := 30, pos := "law.go:113", after := #[{ on := 19, ground := Ground.data }, { on := 17, ground := Ground.guard }], guard := some (17, true) }) (v := ?_) rfl (by kernel_rfl) (by kernel_rfl) (by kernel_rfl) (fun _ _ _ h => h) (Or.inl ⟨by rfl, ?_⟩) (by assumption) ?_
    rotate_left
    · (intro w hSw; (try dsimp only at hSw); go_simp; (try simp [*]); (try with_reducible rfl))
    try simp only [Act.put, List.setIfInBounds_toArray, List.set_cons_zero, List.set_cons_succ]
    refine wpAnyH_take (i := 21) (oi := { dst := some 129, op := Op.load 30 (Operand.tmp 11), type := 30, pos := "law.go:113", after := #[{ on := 17, ground := Ground.guard }], guard := some (17, true) }) (v := ?_) rfl (by kernel_rfl) (by kernel_rfl) (by kernel_rfl) (fun _ _ _ h => h) (Or.inl ⟨by rfl, ?_⟩) (by assumption) ?_
    rotate_left
    · (intro w hSw; (try dsimp only at hSw); go_simp; (try simp [*]); (try with_reducible rfl))
    try simp only [Act.put, List.setIfInBounds_toArray, List.set_cons_zero, List.set_cons_succ]
    refine wpAnyH_take (i := 22) (oi := { dst := some 130, op := Op.binOp BinOp.eql 30 (Operand.tmp 128) (Operand.tmp 129) 30, type := 4, pos := "law.go:113", after := #[{ on := 20, ground := Ground.data }, { on := 21, ground := Ground.data }, { on := 17, ground := Ground.guard }], guard := some (17, true) }) (v := ?_) rfl (by kernel_rfl) (by kernel_rfl) (by kernel_rfl) (fun _ _ _ h => h) (Or.inl ⟨by rfl, ?_⟩) (by assumption) ?_
    rotate_left
    · (intro w hSw; (try dsimp only at hSw); go_simp; (try simp [*]); (try with_reducible rfl))
    try simp only [Act.put, List.setIfInBounds_toArray, List.set_cons_zero, List.set_cons_succ]
    refine wpAnyH_take (i := 23) (oi := { dst := some 131, op := Op.pick (Operand.tmp 125) (Operand.tmp 130) (Operand.const (Value.bool false)), type := 4, pos := "law.go:113", after := #[{ on := 17, ground := Ground.data }, { on := 22, ground := Ground.data }], guard := none }) (v := ?_) rfl (by kernel_rfl) (by kernel_rfl) (by kernel_rfl) (fun _ _ _ h => h) (Or.inl ⟨by rfl, ?_⟩) (by assumption) ?_
    rotate_left
    · (intro w hSw; (try dsimp only at hSw); go_simp; (try simp [*]); (try with_reducible rfl))
    try simp only [Act.put, List.setIfInBounds_toArray, List.set_cons_zero, List.set_cons_succ]
    refine wpAnyH_take (i := 24) (oi := { dst := some 132, op := Op.move (Operand.tmp 131), type := 4, pos := "law.go:113", after := #[{ on := 23, ground := Ground.data }, { on := 17, ground := Ground.chain }], guard := none }) (v := ?_) rfl (by kernel_rfl) (by kernel_rfl) (by kernel_rfl) (fun _ _ _ h => h) (Or.inl ⟨by rfl, ?_⟩) (by assumption) ?_
    rotate_left
    · (intro w hSw; (try dsimp only at hSw); go_simp; (try simp [*]); (try with_reducible rfl))
    try simp only [Act.put, List.setIfInBounds_toArray, List.set_cons_zero, List.set_cons_succ]
    refine wpAnyH_take (i := 25) (oi := { dst := some 133, op := Op.move (Operand.tmp 13), type := 33, pos := "law.go:113", after := #[{ on := 24, ground := Ground.guard }], guard := some (24, true) }) (v := ?_) rfl (by kernel_rfl) (by kernel_rfl) (by kernel_rfl) (fun _ _ _ h => h) (Or.inl ⟨by rfl, ?_⟩) (by assumption) ?_
    rotate_left
    · (intro w hSw; (try dsimp only at hSw); go_simp; (try simp [*]); (try with_reducible rfl))
    try simp only [Act.put, List.setIfInBounds_toArray, List.set_cons_zero, List.set_cons_succ]
    refine wpAnyH_take (i := 26) (oi := { dst := some 134, op := Op.indexAddr 33 (Operand.tmp 133) (Operand.const (Value.int IntKind.i64 2)), type := 0, pos := "law.go:113", after := #[{ on := 25, ground := Ground.data }, { on := 24, ground := Ground.guard }], guard := some (24, true) }) (v := ?_) rfl (by kernel_rfl) (by kernel_rfl) (by kernel_rfl) (fun _ _ _ h => h) (Or.inl ⟨by rfl, ?_⟩) (by assumption) ?_
    rotate_left
    · (intro w hSw; (try dsimp only at hSw); go_simp; (try simp [*]); (try with_reducible rfl))
    try simp only [Act.put, List.setIfInBounds_toArray, List.set_cons_zero, List.set_cons_succ]
    refine wpAnyH_take (i := 27) (oi := { dst := some 135, op := Op.load 30 (Operand.tmp 134), type := 30, pos := "law.go:113", after := #[{ on := 26, ground := Ground.data }, { on := 24, ground := Ground.guard }], guard := some (24, true) }) (v := ?_) rfl (by kernel_rfl) (by kernel_rfl) (by kernel_rfl) (fun _ _ _ h => h) (Or.inl ⟨by rfl, ?_⟩) (by assumption) ?_
    rotate_left
    · (intro w hSw; (try dsimp only at hSw); go_simp; (try simp [*]); (try with_reducible rfl))
    try simp only [Act.put, List.setIfInBounds_toArray, List.set_cons_zero, List.set_cons_succ]
    refine wpAnyH_take (i := 28) (oi := { dst := some 136, op := Op.load 30 (Operand.tmp 15), type := 30, pos := "law.go:113", after := #[{ on := 24, ground := Ground.guard }], guard := some (24, true) }) (v := ?_) rfl (by kernel_rfl) (by kernel_rfl) (by kernel_rfl) (fun _ _ _ h => h) (Or.inl ⟨by rfl, ?_⟩) (by assumption) ?_
    rotate_left
    · (intro w hSw; (try dsimp only at hSw); go_simp; (try simp [*]); (try with_reducible rfl))
    try simp only [Act.put, List.setIfInBounds_toArray, List.set_cons_zero, List.set_cons_succ]
    refine wpAnyH_take (i := 29) (oi := { dst := some 137, op := Op.binOp BinOp.eql 30 (Operand.tmp 135) (Operand.tmp 136) 30, type := 4, pos := "law.go:113", after := #[{ on := 27, ground := Ground.data }, { on := 28, ground := Ground.data }, { on := 24, ground := Ground.guard }], guard := some (24, true) }) (v := ?_) rfl (by kernel_rfl) (by kernel_rfl) (by kernel_rfl) (fun _ _ _ h => h) (Or.inl ⟨by rfl, ?_⟩) (by assumption) ?_
    rotate_left
    · (intro w hSw; (try dsimp only at hSw); go_simp; (try simp [*]); (try with_reducible rfl))
    try simp only [Act.put, List.setIfInBounds_toArray, List.set_cons_zero, List.set_cons_succ]
    refine wpAnyH_take (i := 30) (oi := { dst := some 138, op := Op.pick (Operand.tmp 132) (Operand.tmp 137) (Operand.const (Value.bool false)), type := 4, pos := "law.go:113", after := #[{ on := 24, ground := Ground.data }, { on := 29, ground := Ground.data }], guard := none }) (v := ?_) rfl (by kernel_rfl) (by kernel_rfl) (by kernel_rfl) (fun _ _ _ h => h) (Or.inl ⟨by rfl, ?_⟩) (by assumption) ?_
    rotate_left
    · (intro w hSw; (try dsimp only at hSw); go_simp; (try simp [*]); (try with_reducible rfl))
    try simp only [Act.put, List.setIfInBounds_toArray, List.set_cons_zero, List.set_cons_succ]
    refine wpAnyH_take (i := 31) (oi := { dst := some 139, op := Op.move (Operand.tmp 138), type := 4, pos := "law.go:113", after := #[{ on := 30, ground := Ground.data }, { on := 24, ground := Ground.chain }], guard := none }) (v := ?_) rfl (by kernel_rfl) (by kernel_rfl) (by kernel_rfl) (fun _ _ _ h => h) (Or.inl ⟨by rfl, ?_⟩) (by assumption) ?_
    rotate_left
    · (intro w hSw; (try dsimp only at hSw); go_simp; (try simp [*]); (try with_reducible rfl))
    try simp only [Act.put, List.setIfInBounds_toArray, List.set_cons_zero, List.set_cons_succ]
    refine wpAnyH_take (i := 32) (oi := { dst := some 140, op := Op.move (Operand.tmp 13), type := 33, pos := "law.go:113", after := #[{ on := 31, ground := Ground.guard }], guard := some (31, true) }) (v := ?_) rfl (by kernel_rfl) (by kernel_rfl) (by kernel_rfl) (fun _ _ _ h => h) (Or.inl ⟨by rfl, ?_⟩) (by assumption) ?_
    rotate_left
    · (intro w hSw; (try dsimp only at hSw); go_simp; (try simp [*]); (try with_reducible rfl))
    try simp only [Act.put, List.setIfInBounds_toArray, List.set_cons_zero, List.set_cons_succ]
    refine wpAnyH_take (i := 33) (oi := { dst := some 141, op := Op.indexAddr 33 (Operand.tmp 140) (Operand.const (Value.int IntKind.i64 4)), type := 0, pos := "law.go:113", after := #[{ on := 32, ground := Ground.data }, { on := 31, ground := Ground.guard }], guard := some (31, true) }) (v := ?_) rfl (by kernel_rfl) (by kernel_rfl) (by kernel_rfl) (fun _ _ _ h => h) (Or.inl ⟨by rfl, ?_⟩) (by assumption) ?_
    rotate_left
    · (intro w hSw; (try dsimp only at hSw); go_simp; (try simp [*]); (try with_reducible rfl))
    try simp only [Act.put, List.setIfInBounds_toArray, List.set_cons_zero, List.set_cons_succ]
    refine wpAnyH_take (i := 34) (oi := { dst := some 142, op := Op.load 30 (Operand.tmp 141), type := 30, pos := "law.go:113", after := #[{ on := 33, ground := Ground.data }, { on := 31, ground := Ground.guard }], guard := some (31, true) }) (v := ?_) rfl (by kernel_rfl) (by kernel_rfl) (by kernel_rfl) (fun _ _ _ h => h) (Or.inl ⟨by rfl, ?_⟩) (by assumption) ?_
    rotate_left
    · (intro w hSw; (try dsimp only at hSw); go_simp; (try simp [*]); (try with_reducible rfl))
    try simp only [Act.put, List.setIfInBounds_toArray, List.set_cons_zero, List.set_cons_succ]
    refine wpAnyH_take (i := 35) (oi := { dst := some 143, op := Op.load 30 (Operand.tmp 5), type := 30, pos := "law.go:113", after := #[{ on := 31, ground := Ground.guard }], guard := some (31, true) }) (v := ?_) rfl (by kernel_rfl) (by kernel_rfl) (by kernel_rfl) (fun _ _ _ h => h) (Or.inl ⟨by rfl, ?_⟩) (by assumption) ?_
    rotate_left
    · (intro w hSw; (try dsimp only at hSw); go_simp; (try simp [*]); (try with_reducible rfl))
    try simp only [Act.put, List.setIfInBounds_toArray, List.set_cons_zero, List.set_cons_succ]
    refine wpAnyH_take (i := 36) (oi := { dst := some 144, op := Op.binOp BinOp.eql 30 (Operand.tmp 142) (Operand.tmp 143) 30, type := 4, pos := "law.go:113", after := #[{ on := 34, ground := Ground.data }, { on := 35, ground := Ground.data }, { on := 31, ground := Ground.guard }], guard := some (31, true) }) (v := ?_) rfl (by kernel_rfl) (by kernel_rfl) (by kernel_rfl) (fun _ _ _ h => h) (Or.inl ⟨by rfl, ?_⟩) (by assumption) ?_
    rotate_left
    · (intro w hSw; (try dsimp only at hSw); go_simp; (try simp [*]); (try with_reducible rfl))
    try simp only [Act.put, List.setIfInBounds_toArray, List.set_cons_zero, List.set_cons_succ]
    refine wpAnyH_take (i := 37) (oi := { dst := some 145, op := Op.pick (Operand.tmp 139) (Operand.tmp 144) (Operand.const (Value.bool false)), type := 4, pos := "law.go:113", after := #[{ on := 31, ground := Ground.data }, { on := 36, ground := Ground.data }], guard := none }) (v := ?_) rfl (by kernel_rfl) (by kernel_rfl) (by kernel_rfl) (fun _ _ _ h => h) (Or.inl ⟨by rfl, ?_⟩) (by assumption) ?_
    rotate_left
    · (intro w hSw; (try dsimp only at hSw); go_simp; (try simp [*]); (try with_reducible rfl))
    try simp only [Act.put, List.setIfInBounds_toArray, List.set_cons_zero, List.set_cons_succ]
    refine wpAnyH_take (i := 38) (oi := { dst := some 146, op := Op.move (Operand.tmp 145), type := 4, pos := "law.go:113", after := #[{ on := 37, ground := Ground.data }, { on := 31, ground := Ground.chain }], guard := none }) (v := ?_) rfl (by kernel_rfl) (by kernel_rfl) (by kernel_rfl) (fun _ _ _ h => h) (Or.inl ⟨by rfl, ?_⟩) (by assumption) ?_
    rotate_left
    · (intro w hSw; (try dsimp only at hSw); go_simp; (try simp [*]); (try with_reducible rfl))
    try simp only [Act.put, List.setIfInBounds_toArray, List.set_cons_zero, List.set_cons_succ]
    refine wpAnyH_ready (rs := [39]) (by kernel_rfl) (by simp) ?_
    refine AllReadyH.cons (o := { dst := some 147, op := Op.call { callee := Callee.value (Operand.func 16), args := #[], argTypes := #[] }, type := 4, pos := "law.go:113", after := #[{ on := 38, ground := Ground.chain }, { on := 38, ground := Ground.guard }], guard := some (38, true) }) rfl (fun K hK => ?_) AllReadyH.nil
    go_simp
    with_reducible refine (AL _).mono ?_
    rintro e w9 ⟨rfl, hb9⟩
    obtain ⟨l9, d9, rfl⟩ := toExt hb9
    clear hb9
    (try go_wp2_with fail)
    refine hK.out _ _ ?_ (fun hHeld2 => ?_)
    · (obtain ⟨⟨un0, un1, un2, un3, un4, un5, un6, un7, un8, un9, un10, un11, un12, un13, un14, un15, un16, un17, un18, un19, un20, un21, un22, un23, un24, un25, un26, un27, un28, un29, un30, un31, un32, un33, un34, un35, um0, um1, um2, um3, um4, um5⟩, ⟨uyy0, uyy1, uyy2, uzb⟩, uB⟩ := hHeld; exact ⟨⟨(ext_cell _ _ _ _ _ uyy0).trans un0, (ext_cell _ _ _ _ _ uyy0).trans un1, (ext_cell _ _ _ _ _ uyy0).trans un2, (ext_cell _ _ _ _ _ uyy0).trans un3, (ext_cell _ _ _ _ _ uyy0).trans un4, (ext_cell _ _ _ _ _ uyy0).trans un5, (ext_cell _ _ _ _ _ uyy1).trans un6, (ext_cell _ _ _ _ _ uyy1).trans un7, (ext_cell _ _ _ _ _ uyy1).trans un8, (ext_cell _ _ _ _ _ uyy1).trans un9, (ext_cell _ _ _ _ _ uyy1).trans un10, (ext_cell _ _ _ _ _ uyy1).trans un11, (ext_cell _ _ _ _ _ uyy2).trans un12, (ext_cell _ _ _ _ _ uyy2).trans un13, (ext_cell _ _ _ _ _ uyy2).trans un14, (ext_cell _ _ _ _ _ uyy2).trans un15, (ext_cell _ _ _ _ _ uyy2).trans un16, (ext_cell _ _ _ _ _ uyy2).trans un17, (ext_cell _ _ _ _ _ uyy2).trans un18, (ext_cell _ _ _ _ _ uyy2).trans un19, (ext_cell _ _ _ _ _ uyy2).trans un20, (ext_cell _ _ _ _ _ uyy2).trans un21, (ext_cell _ _ _ _ _ uyy2).trans un22, (ext_cell _ _ _ _ _ uyy2).trans un23, (ext_cell _ _ _ _ _ uyy2).trans un24, (ext_cell _ _ _ _ _ uyy2).trans un25, (ext_cell _ _ _ _ _ uyy2).trans un26, (ext_cell _ _ _ _ _ uyy2).trans un27, (ext_cell _ _ _ _ _ uyy2).trans un28, (ext_cell _ _ _ _ _ uyy2).trans un29, (ext_cell _ _ _ _ _ uyy2).trans un30, (ext_cell _ _ _ _ _ uyy2).trans un31, (ext_cell _ _ _ _ _ uyy2).trans un32, (ext_cell _ _ _ _ _ uyy2).trans un33, (ext_cell _ _ _ _ _ uyy2).trans un34, (ext_cell _ _ _ _ _ uyy2).trans un35, (ext_cell _ _ _ _ _ uzb).trans um0, (ext_cell _ _ _ _ _ uzb).trans um1, (ext_cell _ _ _ _ _ uzb).trans um2, (ext_cell _ _ _ _ _ uzb).trans um3, (ext_cell _ _ _ _ _ uzb).trans um4, (ext_cell _ _ _ _ _ uzb).trans um5⟩, ⟨ext_lt _ _ _ _ uyy0, ext_lt _ _ _ _ uyy1, ext_lt _ _ _ _ uyy2, ext_lt _ _ _ _ uzb⟩, bext uB _ _⟩)
    clear hK K hHeld
    have hHeld := hHeld2
    clear hHeld2
    try simp only [Act.put, List.setIfInBounds_toArray, List.set_cons_zero, List.set_cons_succ]
    refine wpAnyH_take (i := 40) (oi := { dst := some 148, op := Op.pick (Operand.tmp 146) (Operand.tmp 147) (Operand.const (Value.bool false)), type := 4, pos := "law.go:113", after := #[{ on := 38, ground := Ground.data }, { on := 39, ground := Ground.data }], guard := none }) (v := ?_) rfl (by kernel_rfl) (by kernel_rfl) (by kernel_rfl) (fun _ _ _ h => h) (Or.inl ⟨by rfl, ?_⟩) (by assumption) ?_
    rotate_left
    · (intro w hSw; (try dsimp only at hSw); go_simp; (try simp [*]); (try with_reducible rfl))
    try simp only [Act.put, List.setIfInBounds_toArray, List.set_cons_zero, List.set_cons_succ]
    refine wpAnyH_take (i := 41) (oi := { dst := some 4, op := Op.assign (Operand.tmp 148), type := 4, pos := "law.go:113", after := #[{ on := 40, ground := Ground.data }, { on := 39, ground := Ground.chain }, { on := 0, ground := Ground.phase }, { on := 1, ground := Ground.phase }, { on := 2, ground := Ground.phase }, { on := 3, ground := Ground.phase }, { on := 4, ground := Ground.phase }, { on := 5, ground := Ground.phase }, { on := 6, ground := Ground.phase }, { on := 7, ground := Ground.phase }, { on := 8, ground := Ground.phase }, { on := 9, ground := Ground.phase }, { on := 10, ground := Ground.phase }, { on := 11, ground := Ground.phase }, { on := 12, ground := Ground.phase }, { on := 13, ground := Ground.phase }, { on := 14, ground := Ground.phase }, { on := 15, ground := Ground.phase }, { on := 16, ground := Ground.phase }, { on := 17, ground := Ground.phase }, { on := 18, ground := Ground.phase }, { on := 19, ground := Ground.phase }, { on := 20, ground := Ground.phase }, { on := 21, ground := Ground.phase }, { on := 22, ground := Ground.phase }, { on := 23, ground := Ground.phase }, { on := 24, ground := Ground.phase }, { on := 25, ground := Ground.phase }, { on := 26, ground := Ground.phase }, { on := 27, ground := Ground.phase }, { on := 28, ground := Ground.phase }, { on := 29, ground := Ground.phase }, { on := 30, ground := Ground.phase }, { on := 31, ground := Ground.phase }, { on := 32, ground := Ground.phase }, { on := 33, ground := Ground.phase }, { on := 34, ground := Ground.phase }, { on := 35, ground := Ground.phase }, { on := 36, ground := Ground.phase }, { on := 37, ground := Ground.phase }, { on := 38, ground := Ground.phase }, { on := 39, ground := Ground.phase }, { on := 40, ground := Ground.phase }], guard := none }) (v := ?_) rfl (by kernel_rfl) (by kernel_rfl) (by kernel_rfl) (fun _ _ _ h => h) (Or.inl ⟨by rfl, ?_⟩) (by assumption) ?_
    rotate_left
    · (intro w hSw; (try dsimp only at hSw); go_simp; (try simp [*]); (try with_reducible rfl))
    try simp only [Act.put, List.setIfInBounds_toArray, List.set_cons_zero, List.set_cons_succ]
    refine wpAnyH_done (by kernel_rfl) ?_ _
    go_wp2
    go_ret
    exact ⟨rfl, hHeld.2.2⟩
end Go.Proofs.Ytmjbeplcabomdaa
