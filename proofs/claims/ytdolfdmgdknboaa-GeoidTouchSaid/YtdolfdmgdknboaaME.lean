/-
  Package vec: determinants.  Package vec: Flip and Det.  Matrices and vectors: what Apply, Flip and Det return, in both packages.
-/
import Derived.Test.YtdolfdmgdknboaaKu
import Derived.Test.YtdolfdmgdknboaaMC
import Derived.Test.YtdolfdmgdknboaaMD
import Derived.Test.YtdolfdmgdknboaaMA
import Derived.Test.YtdolfdmgdknboaaMB
namespace Go.Proofs.Ytdolfdmgdknboaa
open Go.RowKit
set_option linter.unusedVariables false
set_option linter.unusedSimpArgs false

theorem ad_ok (a b c d : Int) (o1 : okF a b = true) (o2 : okF c d = true) (h : adE a b c d = 0) : okF (adN a b c d) (adD a b c d) = true := by
  obtain ⟨x1, x2, x3, x4, x5⟩ := okF_out o1
  obtain ⟨y1, y2, y3, y4, y5⟩ := okF_out o2
  rw [adE, if_pos ⟨o1, o2⟩] at h
  rw [adN, adD, if_pos ⟨o1, o2⟩, if_pos ⟨o1, o2⟩]
  exact (mk_of _ _ (Int.mul_pos (by omega) (by omega)) h).1
theorem tw_ok (a b c d e f g h : Int) (o1 : okF a b = true) (o2 : okF c d = true) (o3 : okF e f = true) (o4 : okF g h = true) (k : twE a b c d e f g h = 0) : okF (twN a b c d e f g h) (twD a b c d e f g h) = true := by
  unfold twE at k; unfold twN twD
  by_cases q : fsI (muE a b c d) (muE e f g h) 0 = 0
  · rw [if_pos q] at k; rw [if_pos q, if_pos q]
    have m1 : muE a b c d = 0 := by
      unfold fsI at q; split at q
      · assumption
      · exact absurd q (by assumption)
    have m2 : muE e f g h = 0 := by
      unfold fsI at q; rw [if_pos m1] at q; split at q
      · assumption
      · exact absurd q (by assumption)
    exact ad_ok _ _ _ _ (mu_ok _ _ _ _ o1 o2 m1) (mu_ok _ _ _ _ o3 o4 m2) k
  · rw [if_neg q] at k; exact absurd k q
theorem fsI_zero {a b c : Int} (h : fsI a b c = 0) : a = 0 ∧ b = 0 ∧ c = 0 := by
  unfold fsI at h
  split at h
  · split at h
    · exact ⟨by assumption, by assumption, h⟩
    · exact absurd h (by assumption)
  · exact absurd h (by assumption)
/-- The cross product of valid rows. -/
def xE (a b c d e f g h i j k l : Int) : Int := fsI (twE c d k l (-e) f i j) (twE e f g h (-a) b k l) (twE a b i j (-c) d g h)
theorem x_ok (a b c d e f g h i j k l : Int) (o1 : okV a b c d e f = true) (o2 : okV g h i j k l = true) (q : xE a b c d e f g h i j k l = 0) :
    okV (twN c d k l (-e) f i j) (twD c d k l (-e) f i j) (twN e f g h (-a) b k l) (twD e f g h (-a) b k l) (twN a b i j (-c) d g h) (twD a b i j (-c) d g h) = true := by
  obtain ⟨e1, e2, e3⟩ := fsI_zero q
  obtain ⟨u1, u2, u3⟩ := okV_in o1
  obtain ⟨v1, v2, v3⟩ := okV_in o2
  unfold okV
  rw [tw_ok _ _ _ _ _ _ _ _ u2 v3 (by rw [okF_neg1]; exact u3) v2 e1, tw_ok _ _ _ _ _ _ _ _ u3 v1 (by rw [okF_neg1]; exact u1) v3 e2, tw_ok _ _ _ _ _ _ _ _ u1 v2 (by rw [okF_neg1]; exact u2) v1 e3]
  rfl
/-- The determinant of a valid matrix. -/
def deC (M : Nat → Int) : Int := xE (M 6) (M 7) (M 8) (M 9) (M 10) (M 11) (M 12) (M 13) (M 14) (M 15) (M 16) (M 17)
def deE (M : Nat → Int) : Int := if deC M = 0 then doE (M 0) (M 1) (M 2) (M 3) (M 4) (M 5) (twN (M 8) (M 9) (M 16) (M 17) (-(M 10)) (M 11) (M 14) (M 15)) (twD (M 8) (M 9) (M 16) (M 17) (-(M 10)) (M 11) (M 14) (M 15)) (twN (M 10) (M 11) (M 12) (M 13) (-(M 6)) (M 7) (M 16) (M 17)) (twD (M 10) (M 11) (M 12) (M 13) (-(M 6)) (M 7) (M 16) (M 17)) (twN (M 6) (M 7) (M 14) (M 15) (-(M 8)) (M 9) (M 12) (M 13)) (twD (M 6) (M 7) (M 14) (M 15) (-(M 8)) (M 9) (M 12) (M 13)) else deC M
def deN (M : Nat → Int) : Int := if deC M = 0 then doN (M 0) (M 1) (M 2) (M 3) (M 4) (M 5) (twN (M 8) (M 9) (M 16) (M 17) (-(M 10)) (M 11) (M 14) (M 15)) (twD (M 8) (M 9) (M 16) (M 17) (-(M 10)) (M 11) (M 14) (M 15)) (twN (M 10) (M 11) (M 12) (M 13) (-(M 6)) (M 7) (M 16) (M 17)) (twD (M 10) (M 11) (M 12) (M 13) (-(M 6)) (M 7) (M 16) (M 17)) (twN (M 6) (M 7) (M 14) (M 15) (-(M 8)) (M 9) (M 12) (M 13)) (twD (M 6) (M 7) (M 14) (M 15) (-(M 8)) (M 9) (M 12) (M 13)) else 0
def deD (M : Nat → Int) : Int := if deC M = 0 then doD (M 0) (M 1) (M 2) (M 3) (M 4) (M 5) (twN (M 8) (M 9) (M 16) (M 17) (-(M 10)) (M 11) (M 14) (M 15)) (twD (M 8) (M 9) (M 16) (M 17) (-(M 10)) (M 11) (M 14) (M 15)) (twN (M 10) (M 11) (M 12) (M 13) (-(M 6)) (M 7) (M 16) (M 17)) (twD (M 10) (M 11) (M 12) (M 13) (-(M 6)) (M 7) (M 16) (M 17)) (twN (M 6) (M 7) (M 14) (M 15) (-(M 8)) (M 9) (M 12) (M 13)) (twD (M 6) (M 7) (M 14) (M 15) (-(M 8)) (M 9) (M 12) (M 13)) else 0

set_option maxRecDepth 100000 in
set_option maxHeartbeats 1600000 in
theorem vec_det (M : Nat → Int) (o : okM M) (w : World) :
    Calls Try.prog 56 #[.agg #[.int .i64 (M 0), .int .i64 (M 1), .int .i64 (M 2), .int .i64 (M 3), .int .i64 (M 4), .int .i64 (M 5), .int .i64 (M 6), .int .i64 (M 7), .int .i64 (M 8), .int .i64 (M 9), .int .i64 (M 10), .int .i64 (M 11), .int .i64 (M 12), .int .i64 (M 13), .int .i64 (M 14), .int .i64 (M 15), .int .i64 (M 16), .int .i64 (M 17)]] w fun x w' => x = .returned (.tuple #[.agg #[.int .i64 (deN M), .int .i64 (deD M)], .int .i64 (deE M)]) ∧ Below w.heap.size w w' := by
  obtain ⟨o0, o1, o2⟩ := okM_row M o
  have AX : ∀ w, Calls Try.prog 99 #[.agg #[.int .i64 (M 6), .int .i64 (M 7), .int .i64 (M 8), .int .i64 (M 9), .int .i64 (M 10), .int .i64 (M 11)], .agg #[.int .i64 (M 12), .int .i64 (M 13), .int .i64 (M 14), .int .i64 (M 15), .int .i64 (M 16), .int .i64 (M 17)]] w fun x w' => x = .returned (.tuple #[.agg #[.int .i64 (vz (deC M) (twN (M 8) (M 9) (M 16) (M 17) (-(M 10)) (M 11) (M 14) (M 15))), .int .i64 (vz (deC M) (twD (M 8) (M 9) (M 16) (M 17) (-(M 10)) (M 11) (M 14) (M 15))), .int .i64 (vz (deC M) (twN (M 10) (M 11) (M 12) (M 13) (-(M 6)) (M 7) (M 16) (M 17))), .int .i64 (vz (deC M) (twD (M 10) (M 11) (M 12) (M 13) (-(M 6)) (M 7) (M 16) (M 17))), .int .i64 (vz (deC M) (twN (M 6) (M 7) (M 14) (M 15) (-(M 8)) (M 9) (M 12) (M 13))), .int .i64 (vz (deC M) (twD (M 6) (M 7) (M 14) (M 15) (-(M 8)) (M 9) (M 12) (M 13)))], .int .i64 (deC M)]) ∧ Below w.heap.size w w' := fun w => vec_cross (M 6) (M 7) (M 8) (M 9) (M 10) (M 11) (M 12) (M 13) (M 14) (M 15) (M 16) (M 17) o1 o2 w
  by_cases hC : deC M = 0
  · have AD := fun w => vec_dot (M 0) (M 1) (M 2) (M 3) (M 4) (M 5) (twN (M 8) (M 9) (M 16) (M 17) (-(M 10)) (M 11) (M 14) (M 15)) (twD (M 8) (M 9) (M 16) (M 17) (-(M 10)) (M 11) (M 14) (M 15)) (twN (M 10) (M 11) (M 12) (M 13) (-(M 6)) (M 7) (M 16) (M 17)) (twD (M 10) (M 11) (M 12) (M 13) (-(M 6)) (M 7) (M 16) (M 17)) (twN (M 6) (M 7) (M 14) (M 15) (-(M 8)) (M 9) (M 12) (M 13)) (twD (M 6) (M 7) (M 14) (M 15) (-(M 8)) (M 9) (M 12) (M 13)) o0 (x_ok (M 6) (M 7) (M 8) (M 9) (M 10) (M 11) (M 12) (M 13) (M 14) (M 15) (M 16) (M 17) o1 o2 hC) w
    rw [show deN M = doN (M 0) (M 1) (M 2) (M 3) (M 4) (M 5) (twN (M 8) (M 9) (M 16) (M 17) (-(M 10)) (M 11) (M 14) (M 15)) (twD (M 8) (M 9) (M 16) (M 17) (-(M 10)) (M 11) (M 14) (M 15)) (twN (M 10) (M 11) (M 12) (M 13) (-(M 6)) (M 7) (M 16) (M 17)) (twD (M 10) (M 11) (M 12) (M 13) (-(M 6)) (M 7) (M 16) (M 17)) (twN (M 6) (M 7) (M 14) (M 15) (-(M 8)) (M 9) (M 12) (M 13)) (twD (M 6) (M 7) (M 14) (M 15) (-(M 8)) (M 9) (M 12) (M 13)) by unfold deN; rw [if_pos hC], show deD M = doD (M 0) (M 1) (M 2) (M 3) (M 4) (M 5) (twN (M 8) (M 9) (M 16) (M 17) (-(M 10)) (M 11) (M 14) (M 15)) (twD (M 8) (M 9) (M 16) (M 17) (-(M 10)) (M 11) (M 14) (M 15)) (twN (M 10) (M 11) (M 12) (M 13) (-(M 6)) (M 7) (M 16) (M 17)) (twD (M 10) (M 11) (M 12) (M 13) (-(M 6)) (M 7) (M 16) (M 17)) (twN (M 6) (M 7) (M 14) (M 15) (-(M 8)) (M 9) (M 12) (M 13)) (twD (M 6) (M 7) (M 14) (M 15) (-(M 8)) (M 9) (M 12) (M 13)) by unfold deD; rw [if_pos hC], show deE M = doE (M 0) (M 1) (M 2) (M 3) (M 4) (M 5) (twN (M 8) (M 9) (M 16) (M 17) (-(M 10)) (M 11) (M 14) (M 15)) (twD (M 8) (M 9) (M 16) (M 17) (-(M 10)) (M 11) (M 14) (M 15)) (twN (M 10) (M 11) (M 12) (M 13) (-(M 6)) (M 7) (M 16) (M 17)) (twD (M 10) (M 11) (M 12) (M 13) (-(M 6)) (M 7) (M 16) (M 17)) (twN (M 6) (M 7) (M 14) (M 15) (-(M 8)) (M 9) (M 12) (M 13)) (twD (M 6) (M 7) (M 14) (M 15) (-(M 8)) (M 9) (M 12) (M 13)) by unfold deE; rw [if_pos hC]]
    rw [hC] at AX
    simp only [vz0] at AX
    clear hC o o0 o1 o2
    generalize doN (M 0) (M 1) (M 2) (M 3) (M 4) (M 5) (twN (M 8) (M 9) (M 16) (M 17) (-(M 10)) (M 11) (M 14) (M 15)) (twD (M 8) (M 9) (M 16) (M 17) (-(M 10)) (M 11) (M 14) (M 15)) (twN (M 10) (M 11) (M 12) (M 13) (-(M 6)) (M 7) (M 16) (M 17)) (twD (M 10) (M 11) (M 12) (M 13) (-(M 6)) (M 7) (M 16) (M 17)) (twN (M 6) (M 7) (M 14) (M 15) (-(M 8)) (M 9) (M 12) (M 13)) (twD (M 6) (M 7) (M 14) (M 15) (-(M 8)) (M 9) (M 12) (M 13)) = X1 at *
    generalize doD (M 0) (M 1) (M 2) (M 3) (M 4) (M 5) (twN (M 8) (M 9) (M 16) (M 17) (-(M 10)) (M 11) (M 14) (M 15)) (twD (M 8) (M 9) (M 16) (M 17) (-(M 10)) (M 11) (M 14) (M 15)) (twN (M 10) (M 11) (M 12) (M 13) (-(M 6)) (M 7) (M 16) (M 17)) (twD (M 10) (M 11) (M 12) (M 13) (-(M 6)) (M 7) (M 16) (M 17)) (twN (M 6) (M 7) (M 14) (M 15) (-(M 8)) (M 9) (M 12) (M 13)) (twD (M 6) (M 7) (M 14) (M 15) (-(M 8)) (M 9) (M 12) (M 13)) = X2 at *
    generalize doE (M 0) (M 1) (M 2) (M 3) (M 4) (M 5) (twN (M 8) (M 9) (M 16) (M 17) (-(M 10)) (M 11) (M 14) (M 15)) (twD (M 8) (M 9) (M 16) (M 17) (-(M 10)) (M 11) (M 14) (M 15)) (twN (M 10) (M 11) (M 12) (M 13) (-(M 6)) (M 7) (M 16) (M 17)) (twD (M 10) (M 11) (M 12) (M 13) (-(M 6)) (M 7) (M 16) (M 17)) (twN (M 6) (M 7) (M 14) (M 15) (-(M 8)) (M 9) (M 12) (M 13)) (twD (M 6) (M 7) (M 14) (M 15) (-(M 8)) (M 9) (M 12) (M 13)) = X3 at *
    generalize twN (M 8) (M 9) (M 16) (M 17) (-(M 10)) (M 11) (M 14) (M 15) = c00 at *
    generalize twD (M 8) (M 9) (M 16) (M 17) (-(M 10)) (M 11) (M 14) (M 15) = c01 at *
    generalize twN (M 10) (M 11) (M 12) (M 13) (-(M 6)) (M 7) (M 16) (M 17) = c10 at *
    generalize twD (M 10) (M 11) (M 12) (M 13) (-(M 6)) (M 7) (M 16) (M 17) = c11 at *
    generalize twN (M 6) (M 7) (M 14) (M 15) (-(M 8)) (M 9) (M 12) (M 13) = c20 at *
    generalize twD (M 6) (M 7) (M 14) (M 15) (-(M 8)) (M 9) (M 12) (M 13) = c21 at *
    generalize M 0 = m0 at *
    generalize M 1 = m1 at *
    generalize M 2 = m2 at *
    generalize M 3 = m3 at *
    generalize M 4 = m4 at *
    generalize M 5 = m5 at *
    generalize M 6 = m6 at *
    generalize M 7 = m7 at *
    generalize M 8 = m8 at *
    generalize M 9 = m9 at *
    generalize M 10 = m10 at *
    generalize M 11 = m11 at *
    generalize M 12 = m12 at *
    generalize M 13 = m13 at *
    generalize M 14 = m14 at *
    generalize M 15 = m15 at *
    generalize M 16 = m16 at *
    generalize M 17 = m17 at *
    have dAl := dAl; have dSt := dSt; have xC := ext_cell; have xF := ext_frozen; have xS := ext_set; have xN := ext_drewN; have xD := ext_drew; have xL := ext_lt; have xE := ext_ne; have xG := ext_nr; have xX := ext_ext; have xL1 := ext_lt1; have xL2 := ext_lt2; have xL3 := ext_lt3; have xM0 := ext_le0; have xM1 := ext_le1; have xM2 := ext_le2
    go_enter Try.func56, Try.ntmps56
    go_wp2_with fail
    with_reducible refine (AX _).mono ?_
    rintro e w1 ⟨rfl, hb⟩
    have HB1 : Below w.heap.size w w1 := by
      refine Below.trans ?_ (hb.mono ?_)
      · exact kb
      · first | omega | (simp <;> omega)
    have zs1 : w.heap.size + 2 < w1.heap.size + 1 := by have := hb.size; (try simp at this); omega
    have ka0 : w1.cell? ⟨w.heap.size, 0, none⟩ = some (.int .i64 m0) := bce hb
    have ka1 : w1.cell? ⟨w.heap.size, 1, none⟩ = some (.int .i64 m1) := bce hb
    have ka2 : w1.cell? ⟨w.heap.size, 2, none⟩ = some (.int .i64 m2) := bce hb
    have ka3 : w1.cell? ⟨w.heap.size, 3, none⟩ = some (.int .i64 m3) := bce hb
    have ka4 : w1.cell? ⟨w.heap.size, 4, none⟩ = some (.int .i64 m4) := bce hb
    have ka5 : w1.cell? ⟨w.heap.size, 5, none⟩ = some (.int .i64 m5) := bce hb
    have ka6 : w1.cell? ⟨w.heap.size, 6, none⟩ = some (.int .i64 m6) := bce hb
    have ka7 : w1.cell? ⟨w.heap.size, 7, none⟩ = some (.int .i64 m7) := bce hb
    have ka8 : w1.cell? ⟨w.heap.size, 8, none⟩ = some (.int .i64 m8) := bce hb
    have ka9 : w1.cell? ⟨w.heap.size, 9, none⟩ = some (.int .i64 m9) := bce hb
    have ka10 : w1.cell? ⟨w.heap.size, 10, none⟩ = some (.int .i64 m10) := bce hb
    have ka11 : w1.cell? ⟨w.heap.size, 11, none⟩ = some (.int .i64 m11) := bce hb
    have ka12 : w1.cell? ⟨w.heap.size, 12, none⟩ = some (.int .i64 m12) := bce hb
    have ka13 : w1.cell? ⟨w.heap.size, 13, none⟩ = some (.int .i64 m13) := bce hb
    have ka14 : w1.cell? ⟨w.heap.size, 14, none⟩ = some (.int .i64 m14) := bce hb
    have ka15 : w1.cell? ⟨w.heap.size, 15, none⟩ = some (.int .i64 m15) := bce hb
    have ka16 : w1.cell? ⟨w.heap.size, 16, none⟩ = some (.int .i64 m16) := bce hb
    have ka17 : w1.cell? ⟨w.heap.size, 17, none⟩ = some (.int .i64 m17) := bce hb
    have kc0 : w1.cell? ⟨w.heap.size + 1, 0, none⟩ = some (.int .i64 0) := bce hb
    have kc1 : w1.cell? ⟨w.heap.size + 1, 1, none⟩ = some (.int .i64 0) := bce hb
    have kcf0 : w1.frozen? ⟨w.heap.size + 1, 0, none⟩ = false := bfz hb
    have kcf1 : w1.frozen? ⟨w.heap.size + 1, 1, none⟩ = false := bfz hb
    clear hb
    have zy0_1 : w.heap.size < w1.heap.size := by omega
    have zy1_1 : w.heap.size + 1 < w1.heap.size := by omega
    go_wp2_with fail
    with_reducible refine (AD _).mono ?_
    rintro e w2 ⟨rfl, hb⟩
    have HB2 : Below w.heap.size w w2 := by
      refine Below.trans ?_ (hb.mono ?_)
      · exact kb
      · first | omega | (simp <;> omega)
    have zs2 : w1.heap.size + 1 < w2.heap.size + 1 := by have := hb.size; (try simp at this); omega
    replace ka0 : w2.cell? ⟨w.heap.size, 0, none⟩ = some (.int .i64 m0) := bce hb
    replace ka1 : w2.cell? ⟨w.heap.size, 1, none⟩ = some (.int .i64 m1) := bce hb
    replace ka2 : w2.cell? ⟨w.heap.size, 2, none⟩ = some (.int .i64 m2) := bce hb
    replace ka3 : w2.cell? ⟨w.heap.size, 3, none⟩ = some (.int .i64 m3) := bce hb
    replace ka4 : w2.cell? ⟨w.heap.size, 4, none⟩ = some (.int .i64 m4) := bce hb
    replace ka5 : w2.cell? ⟨w.heap.size, 5, none⟩ = some (.int .i64 m5) := bce hb
    replace ka6 : w2.cell? ⟨w.heap.size, 6, none⟩ = some (.int .i64 m6) := bce hb
    replace ka7 : w2.cell? ⟨w.heap.size, 7, none⟩ = some (.int .i64 m7) := bce hb
    replace ka8 : w2.cell? ⟨w.heap.size, 8, none⟩ = some (.int .i64 m8) := bce hb
    replace ka9 : w2.cell? ⟨w.heap.size, 9, none⟩ = some (.int .i64 m9) := bce hb
    replace ka10 : w2.cell? ⟨w.heap.size, 10, none⟩ = some (.int .i64 m10) := bce hb
    replace ka11 : w2.cell? ⟨w.heap.size, 11, none⟩ = some (.int .i64 m11) := bce hb
    replace ka12 : w2.cell? ⟨w.heap.size, 12, none⟩ = some (.int .i64 m12) := bce hb
    replace ka13 : w2.cell? ⟨w.heap.size, 13, none⟩ = some (.int .i64 m13) := bce hb
    replace ka14 : w2.cell? ⟨w.heap.size, 14, none⟩ = some (.int .i64 m14) := bce hb
    replace ka15 : w2.cell? ⟨w.heap.size, 15, none⟩ = some (.int .i64 m15) := bce hb
    replace ka16 : w2.cell? ⟨w.heap.size, 16, none⟩ = some (.int .i64 m16) := bce hb
    replace ka17 : w2.cell? ⟨w.heap.size, 17, none⟩ = some (.int .i64 m17) := bce hb
    replace kc0 : w2.cell? ⟨w.heap.size + 1, 0, none⟩ = some (.int .i64 0) := bce hb
    replace kc1 : w2.cell? ⟨w.heap.size + 1, 1, none⟩ = some (.int .i64 0) := bce hb
    replace kcf0 : w2.frozen? ⟨w.heap.size + 1, 0, none⟩ = false := bfz hb
    replace kcf1 : w2.frozen? ⟨w.heap.size + 1, 1, none⟩ = false := bfz hb
    have r1_0 : w2.cell? ⟨w1.heap.size, 0, none⟩ = some (.int .i64 c00) := bce hb
    have r1_1 : w2.cell? ⟨w1.heap.size, 1, none⟩ = some (.int .i64 c01) := bce hb
    have r1_2 : w2.cell? ⟨w1.heap.size, 2, none⟩ = some (.int .i64 c10) := bce hb
    have r1_3 : w2.cell? ⟨w1.heap.size, 3, none⟩ = some (.int .i64 c11) := bce hb
    have r1_4 : w2.cell? ⟨w1.heap.size, 4, none⟩ = some (.int .i64 c20) := bce hb
    have r1_5 : w2.cell? ⟨w1.heap.size, 5, none⟩ = some (.int .i64 c21) := bce hb
    clear hb HB1
    have zy0_2 : w.heap.size < w2.heap.size := by omega
    have zy1_2 : w.heap.size + 1 < w2.heap.size := by omega
    have zz_w1_2 : w1.heap.size < w2.heap.size := by omega
    go_wp2_with fail
    refine bodyPost_ret (by simp [results, Try.results56, go_sem, ext_cell, kp, *]; try rfl) rfl ?_
    exact ⟨rfl, kb⟩
  · rw [show deN M = 0 by unfold deN; rw [if_neg hC], show deD M = 0 by unfold deD; rw [if_neg hC], show deE M = deC M by unfold deE; rw [if_neg hC]]
    have hC2 : (deC M == 0) = false := by simp [hC]
    have AX2 : ∀ w, Calls Try.prog 99 #[.agg #[.int .i64 (M 6), .int .i64 (M 7), .int .i64 (M 8), .int .i64 (M 9), .int .i64 (M 10), .int .i64 (M 11)], .agg #[.int .i64 (M 12), .int .i64 (M 13), .int .i64 (M 14), .int .i64 (M 15), .int .i64 (M 16), .int .i64 (M 17)]] w fun x w' => x = .returned (.tuple #[.agg #[.int .i64 0, .int .i64 0, .int .i64 0, .int .i64 0, .int .i64 0, .int .i64 0], .int .i64 (deC M)]) ∧ Below w.heap.size w w' := by
      intro w; have := AX w; simp only [vzn hC] at this; exact this
    clear AX hC o o0 o1 o2
    generalize deC M = CE at *
    generalize M 0 = m0 at *
    generalize M 1 = m1 at *
    generalize M 2 = m2 at *
    generalize M 3 = m3 at *
    generalize M 4 = m4 at *
    generalize M 5 = m5 at *
    generalize M 6 = m6 at *
    generalize M 7 = m7 at *
    generalize M 8 = m8 at *
    generalize M 9 = m9 at *
    generalize M 10 = m10 at *
    generalize M 11 = m11 at *
    generalize M 12 = m12 at *
    generalize M 13 = m13 at *
    generalize M 14 = m14 at *
    generalize M 15 = m15 at *
    generalize M 16 = m16 at *
    generalize M 17 = m17 at *
    have dAl := dAl; have dSt := dSt; have xC := ext_cell; have xF := ext_frozen; have xS := ext_set; have xN := ext_drewN; have xD := ext_drew; have xL := ext_lt; have xE := ext_ne; have xG := ext_nr; have xX := ext_ext; have xL1 := ext_lt1; have xL2 := ext_lt2; have xL3 := ext_lt3; have xM0 := ext_le0; have xM1 := ext_le1; have xM2 := ext_le2
    go_enter Try.func56, Try.ntmps56
    go_wp2_with fail
    with_reducible refine (AX2 _).mono ?_
    rintro e w1 ⟨rfl, hb⟩
    have HB1 : Below w.heap.size w w1 := by
      refine Below.trans ?_ (hb.mono ?_)
      · exact kb
      · first | omega | (simp <;> omega)
    have zs1 : w.heap.size + 2 < w1.heap.size + 1 := by have := hb.size; (try simp at this); omega
    have ka0 : w1.cell? ⟨w.heap.size, 0, none⟩ = some (.int .i64 m0) := bce hb
    have ka1 : w1.cell? ⟨w.heap.size, 1, none⟩ = some (.int .i64 m1) := bce hb
    have ka2 : w1.cell? ⟨w.heap.size, 2, none⟩ = some (.int .i64 m2) := bce hb
    have ka3 : w1.cell? ⟨w.heap.size, 3, none⟩ = some (.int .i64 m3) := bce hb
    have ka4 : w1.cell? ⟨w.heap.size, 4, none⟩ = some (.int .i64 m4) := bce hb
    have ka5 : w1.cell? ⟨w.heap.size, 5, none⟩ = some (.int .i64 m5) := bce hb
    have ka6 : w1.cell? ⟨w.heap.size, 6, none⟩ = some (.int .i64 m6) := bce hb
    have ka7 : w1.cell? ⟨w.heap.size, 7, none⟩ = some (.int .i64 m7) := bce hb
    have ka8 : w1.cell? ⟨w.heap.size, 8, none⟩ = some (.int .i64 m8) := bce hb
    have ka9 : w1.cell? ⟨w.heap.size, 9, none⟩ = some (.int .i64 m9) := bce hb
    have ka10 : w1.cell? ⟨w.heap.size, 10, none⟩ = some (.int .i64 m10) := bce hb
    have ka11 : w1.cell? ⟨w.heap.size, 11, none⟩ = some (.int .i64 m11) := bce hb
    have ka12 : w1.cell? ⟨w.heap.size, 12, none⟩ = some (.int .i64 m12) := bce hb
    have ka13 : w1.cell? ⟨w.heap.size, 13, none⟩ = some (.int .i64 m13) := bce hb
    have ka14 : w1.cell? ⟨w.heap.size, 14, none⟩ = some (.int .i64 m14) := bce hb
    have ka15 : w1.cell? ⟨w.heap.size, 15, none⟩ = some (.int .i64 m15) := bce hb
    have ka16 : w1.cell? ⟨w.heap.size, 16, none⟩ = some (.int .i64 m16) := bce hb
    have ka17 : w1.cell? ⟨w.heap.size, 17, none⟩ = some (.int .i64 m17) := bce hb
    have kc0 : w1.cell? ⟨w.heap.size + 1, 0, none⟩ = some (.int .i64 0) := bce hb
    have kc1 : w1.cell? ⟨w.heap.size + 1, 1, none⟩ = some (.int .i64 0) := bce hb
    have kcf0 : w1.frozen? ⟨w.heap.size + 1, 0, none⟩ = false := bfz hb
    have kcf1 : w1.frozen? ⟨w.heap.size + 1, 1, none⟩ = false := bfz hb
    clear hb
    have zy0_1 : w.heap.size < w1.heap.size := by omega
    have zy1_1 : w.heap.size + 1 < w1.heap.size := by omega
    go_wp2_with fail
    refine bodyPost_ret (by simp [results, Try.results56, go_sem, ext_cell, kp, *]; try rfl) rfl ?_
    exact ⟨rfl, kb⟩
end Go.Proofs.Ytdolfdmgdknboaa
namespace Go.Proofs.Ytdolfdmgdknboaa
open Go.RowKit
set_option linter.unusedVariables false
set_option linter.unusedSimpArgs false

theorem arr02 : ∀ o, o < 2 → (#[.int .i64 0, .int .i64 0] : Array Value)[o]? = some (.int .i64 ((fun _ => (0 : Int)) o)) := by
  intro o ho
  rcases (show o = 0 ∨ o = 1 by omega) with rfl | rfl <;> rfl

set_option maxRecDepth 100000 in
set_option maxHeartbeats 3200000 in
theorem vec_Flip_ok (M : Nat → Int) (hb : okCM M) (ho : okM M) (w : World) :
    Calls Try.prog 14 #[.agg #[.int .i64 (M 0), .int .i64 (M 1), .int .i64 (M 2), .int .i64 (M 3), .int .i64 (M 4), .int .i64 (M 5), .int .i64 (M 6), .int .i64 (M 7), .int .i64 (M 8), .int .i64 (M 9), .int .i64 (M 10), .int .i64 (M 11), .int .i64 (M 12), .int .i64 (M 13), .int .i64 (M 14), .int .i64 (M 15), .int .i64 (M 16), .int .i64 (M 17)]] w fun x w' => x = .returned (.tuple #[.agg #[.int .i64 ((fpP M) 0), .int .i64 ((fpP M) 1), .int .i64 ((fpP M) 2), .int .i64 ((fpP M) 3), .int .i64 ((fpP M) 4), .int .i64 ((fpP M) 5), .int .i64 ((fpP M) 6), .int .i64 ((fpP M) 7), .int .i64 ((fpP M) 8), .int .i64 ((fpP M) 9), .int .i64 ((fpP M) 10), .int .i64 ((fpP M) 11), .int .i64 ((fpP M) 12), .int .i64 ((fpP M) 13), .int .i64 ((fpP M) 14), .int .i64 ((fpP M) 15), .int .i64 ((fpP M) 16), .int .i64 ((fpP M) 17)], .int .i64 0]) ∧ Below w.heap.size w w' := by
  have CK := fun W g h1 h2 => check_mat M hb W g h1 h2
  rw [chM_ok ho] at CK
  clear hb ho
  have dAl := dAl; have dSt := dSt
  go_enter Try.func14, Try.ntmps14
  go_upto_region 1 with fail
  refine opq (fun wx => Cs wx w.heap.size 18 M ∧ Cs wx (w.heap.size + 1) 18 (fun _ => 0) ∧ Fs wx (w.heap.size + 1) 18 ∧ w.heap.size + 1 < wx.heap.size ∧ Below w.heap.size w wx) ?_ ?_
  · exact ⟨cs_alloc _ (cs_new rfl (arrM M)) (by simp), cs_new (by simp) arr0, fs_new (by simp), by simp, kb⟩
  rintro wz ⟨cM, cR, fR, zs, HBa⟩
  have hM : ∀ o, o < 18 → wz.cell? ⟨w.heap.size, o, none⟩ = some (.int .i64 (M o)) := cM
  go_wp2_with fail
  with_reducible refine (CK _ _ (by omega) hM).mono ?_
  rintro e w1 ⟨rfl, hb⟩
  clear hM CK
  replace cM := cs_below cM hb (by omega)
  replace cR := cs_below cR hb (by omega)
  replace fR := fs_below fR hb (by omega)
  replace HBa := HBa.trans (hb.mono (by omega))
  replace zs := Nat.lt_of_lt_of_le zs hb.size
  clear hb
  go_upto_region 4 with fail
  go_step
  refine load18 (.tmp 1) _ M cM rfl rfl rfl ?_
  simp only [putA]
  refine wpList_plain rfl (fun K hK => ?_)
  go_big_op
  with_reducible refine (vec_flip M _).mono ?_
  rintro e w2 ⟨rfl, hb⟩
  simp only []
  refine hK _ _ ?_
  clear hK K
  replace cM := cs_below cM hb (by omega)
  replace cR := cs_below cR hb (by omega)
  replace fR := fs_below fR hb (by omega)
  replace HBa := HBa.trans (hb.mono (by omega))
  replace zs := Nat.lt_of_lt_of_le zs hb.size
  clear hb
  refine store18 (.tmp 2) (.tmp 12) (w.heap.size + 1) (fpP M) (fun _ => 0) cR fR rfl rfl rfl rfl ?_
  intro wx cX fX sX bX
  have HBx := bX w.heap.size w (by omega) HBa
  clear cR fR HBa bX fX sX cM
  go_wp2
  refine bodyPost_ret (res_mat2 (v := .int .i64 0) Try.results14 rfl rfl cX) rfl ?_
  exact ⟨rfl, HBx⟩

set_option maxRecDepth 100000 in
set_option maxHeartbeats 3200000 in
theorem vec_Flip_bad (M : Nat → Int) (hb : okCM M) (ho : ¬ okM M) (w : World) :
    Calls Try.prog 14 #[.agg #[.int .i64 (M 0), .int .i64 (M 1), .int .i64 (M 2), .int .i64 (M 3), .int .i64 (M 4), .int .i64 (M 5), .int .i64 (M 6), .int .i64 (M 7), .int .i64 (M 8), .int .i64 (M 9), .int .i64 (M 10), .int .i64 (M 11), .int .i64 (M 12), .int .i64 (M 13), .int .i64 (M 14), .int .i64 (M 15), .int .i64 (M 16), .int .i64 (M 17)]] w fun x w' => x = .returned (.tuple #[.agg #[.int .i64 ((fun _ => 0) 0), .int .i64 ((fun _ => 0) 1), .int .i64 ((fun _ => 0) 2), .int .i64 ((fun _ => 0) 3), .int .i64 ((fun _ => 0) 4), .int .i64 ((fun _ => 0) 5), .int .i64 ((fun _ => 0) 6), .int .i64 ((fun _ => 0) 7), .int .i64 ((fun _ => 0) 8), .int .i64 ((fun _ => 0) 9), .int .i64 ((fun _ => 0) 10), .int .i64 ((fun _ => 0) 11), .int .i64 ((fun _ => 0) 12), .int .i64 ((fun _ => 0) 13), .int .i64 ((fun _ => 0) 14), .int .i64 ((fun _ => 0) 15), .int .i64 ((fun _ => 0) 16), .int .i64 ((fun _ => 0) 17)], .int .i64 8]) ∧ Below w.heap.size w w' := by
  have CK := fun W g h1 h2 => check_mat M hb W g h1 h2
  rw [chM_bad ho] at CK
  clear hb ho
  have dAl := dAl; have dSt := dSt
  go_enter Try.func14, Try.ntmps14
  go_upto_region 1 with fail
  refine opq (fun wx => Cs wx w.heap.size 18 M ∧ Cs wx (w.heap.size + 1) 18 (fun _ => 0) ∧ Fs wx (w.heap.size + 1) 18 ∧ w.heap.size + 1 < wx.heap.size ∧ Below w.heap.size w wx) ?_ ?_
  · exact ⟨cs_alloc _ (cs_new rfl (arrM M)) (by simp), cs_new (by simp) arr0, fs_new (by simp), by simp, kb⟩
  rintro wz ⟨cM, cR, fR, zs, HBa⟩
  have hM : ∀ o, o < 18 → wz.cell? ⟨w.heap.size, o, none⟩ = some (.int .i64 (M o)) := cM
  go_wp2_with fail
  with_reducible refine (CK _ _ (by omega) hM).mono ?_
  rintro e w1 ⟨rfl, hb⟩
  clear hM CK
  replace cM := cs_below cM hb (by omega)
  replace cR := cs_below cR hb (by omega)
  replace fR := fs_below fR hb (by omega)
  replace HBa := HBa.trans (hb.mono (by omega))
  replace zs := Nat.lt_of_lt_of_le zs hb.size
  clear hb
  go_upto_region 3 with fail
  go_step
  refine wpList_plain rfl (fun K hK => ?_)
  go_big_op
  refine hK _ _ ?_
  clear hK K
  refine wpList_plain rfl (fun K hK => ?_)
  go_big_op
  refine hK _ _ ?_
  clear hK K
  refine store18 (.tmp 2) (.tmp 9) (w.heap.size + 1) (fun _ => 0) (fun _ => 0) cR fR rfl rfl rfl rfl ?_
  intro wx cX fX sX bX
  have HBx := bX w.heap.size w (by omega) HBa
  clear cR fR HBa bX fX sX cM
  go_wp2
  refine bodyPost_ret (res_mat2 (v := .int .i64 8) Try.results14 rfl rfl cX) rfl ?_
  exact ⟨rfl, HBx⟩

set_option maxRecDepth 100000 in
set_option maxHeartbeats 3200000 in
theorem vec_Det_ok (M : Nat → Int) (hb : okCM M) (ho : okM M) (w : World) :
    Calls Try.prog 16 #[.agg #[.int .i64 (M 0), .int .i64 (M 1), .int .i64 (M 2), .int .i64 (M 3), .int .i64 (M 4), .int .i64 (M 5), .int .i64 (M 6), .int .i64 (M 7), .int .i64 (M 8), .int .i64 (M 9), .int .i64 (M 10), .int .i64 (M 11), .int .i64 (M 12), .int .i64 (M 13), .int .i64 (M 14), .int .i64 (M 15), .int .i64 (M 16), .int .i64 (M 17)]] w fun x w' => x = .returned (.tuple #[.agg #[.int .i64 (deN M), .int .i64 (deD M)], .int .i64 (deE M)]) ∧ Below w.heap.size w w' := by
  have CK := fun W g h1 h2 => check_mat M hb W g h1 h2
  rw [chM_ok ho] at CK
  have AD := fun w => vec_det M ho w
  clear hb ho
  generalize deN M = X1 at *
  generalize deD M = X2 at *
  generalize deE M = X3 at *
  have dAl := dAl; have dSt := dSt
  go_enter Try.func16, Try.ntmps16
  go_upto_region 1 with fail
  refine opq (fun wx => Cs wx w.heap.size 18 M ∧ Cs wx (w.heap.size + 1) 2 (fun _ => 0) ∧ Fs wx (w.heap.size + 1) 2 ∧ w.heap.size + 1 < wx.heap.size ∧ Below w.heap.size w wx) ?_ ?_
  · exact ⟨cs_alloc _ (cs_new rfl (arrM M)) (by simp), cs_new (by simp) arr02, fs_new (by simp), by simp, kb⟩
  rintro wz ⟨cM, cR, fR, zs, HBa⟩
  have hM : ∀ o, o < 18 → wz.cell? ⟨w.heap.size, o, none⟩ = some (.int .i64 (M o)) := cM
  go_wp2_with fail
  with_reducible refine (CK _ _ (by omega) hM).mono ?_
  rintro e w1 ⟨rfl, hb⟩
  clear hM CK
  replace cM := cs_below cM hb (by omega)
  replace cR := cs_below cR hb (by omega)
  replace fR := fs_below fR hb (by omega)
  replace HBa := HBa.trans (hb.mono (by omega))
  replace zs := Nat.lt_of_lt_of_le zs hb.size
  clear hb
  have hR : ∀ o, o < 2 → w1.cell? ⟨w.heap.size + 1, o, none⟩ = some (.int .i64 0) := cR
  have hF : ∀ o, o < 2 → w1.frozen? ⟨w.heap.size + 1, o, none⟩ = false := fR
  go_upto_region 4 with fail
  go_step
  refine load18 (.tmp 1) _ M cM rfl rfl rfl ?_
  go_wp2_with fail
  with_reducible refine (AD _).mono ?_
  rintro e w2 ⟨rfl, hb⟩
  replace cM := cs_below cM hb (by omega)
  replace cR := cs_below cR hb (by omega)
  replace fR := fs_below fR hb (by omega)
  replace HBa := HBa.trans (hb.mono (by omega))
  replace zs := Nat.lt_of_lt_of_le zs hb.size
  clear hb hR hF AD
  have hR : ∀ o, o < 2 → w2.cell? ⟨w.heap.size + 1, o, none⟩ = some (.int .i64 0) := cR
  have hF : ∀ o, o < 2 → w2.frozen? ⟨w.heap.size + 1, o, none⟩ = false := fR
  go_wp2
  refine bodyPost_ret (by simp [results, Try.results16, go_sem, ext_cell, kp, *]; try rfl) rfl ?_
  exact ⟨rfl, kb⟩

set_option maxRecDepth 100000 in
set_option maxHeartbeats 3200000 in
theorem vec_Det_bad (M : Nat → Int) (hb : okCM M) (ho : ¬ okM M) (w : World) :
    Calls Try.prog 16 #[.agg #[.int .i64 (M 0), .int .i64 (M 1), .int .i64 (M 2), .int .i64 (M 3), .int .i64 (M 4), .int .i64 (M 5), .int .i64 (M 6), .int .i64 (M 7), .int .i64 (M 8), .int .i64 (M 9), .int .i64 (M 10), .int .i64 (M 11), .int .i64 (M 12), .int .i64 (M 13), .int .i64 (M 14), .int .i64 (M 15), .int .i64 (M 16), .int .i64 (M 17)]] w fun x w' => x = .returned (.tuple #[.agg #[.int .i64 0, .int .i64 0], .int .i64 8]) ∧ Below w.heap.size w w' := by
  have CK := fun W g h1 h2 => check_mat M hb W g h1 h2
  rw [chM_bad ho] at CK
  clear hb ho
  have dAl := dAl; have dSt := dSt
  go_enter Try.func16, Try.ntmps16
  go_upto_region 1 with fail
  refine opq (fun wx => Cs wx w.heap.size 18 M ∧ Cs wx (w.heap.size + 1) 2 (fun _ => 0) ∧ Fs wx (w.heap.size + 1) 2 ∧ w.heap.size + 1 < wx.heap.size ∧ Below w.heap.size w wx) ?_ ?_
  · exact ⟨cs_alloc _ (cs_new rfl (arrM M)) (by simp), cs_new (by simp) arr02, fs_new (by simp), by simp, kb⟩
  rintro wz ⟨cM, cR, fR, zs, HBa⟩
  have hM : ∀ o, o < 18 → wz.cell? ⟨w.heap.size, o, none⟩ = some (.int .i64 (M o)) := cM
  go_wp2_with fail
  with_reducible refine (CK _ _ (by omega) hM).mono ?_
  rintro e w1 ⟨rfl, hb⟩
  clear hM CK
  replace cM := cs_below cM hb (by omega)
  replace cR := cs_below cR hb (by omega)
  replace fR := fs_below fR hb (by omega)
  replace HBa := HBa.trans (hb.mono (by omega))
  replace zs := Nat.lt_of_lt_of_le zs hb.size
  clear hb
  have hR : ∀ o, o < 2 → w1.cell? ⟨w.heap.size + 1, o, none⟩ = some (.int .i64 0) := cR
  have hF : ∀ o, o < 2 → w1.frozen? ⟨w.heap.size + 1, o, none⟩ = false := fR
  go_wp2
  refine bodyPost_ret (by simp [results, Try.results16, go_sem, ext_cell, kp, *]; try rfl) rfl ?_
  exact ⟨rfl, kb⟩
end Go.Proofs.Ytdolfdmgdknboaa
namespace Go.Proofs.Ytdolfdmgdknboaa
open Go.RowKit
set_option linter.unusedVariables false
set_option linter.unusedSimpArgs false


def okW (V : Nat → Int) : Prop := okV (V 0) (V 1) (V 2) (V 3) (V 4) (V 5) = true
instance (V : Nat → Int) : Decidable (okW V) := by unfold okW; infer_instance
def okCW (V : Nat → Int) : Prop := okC (V 0) (V 1) ∧ okC (V 2) (V 3) ∧ okC (V 4) (V 5)
def cat (M N : Nat → Int) : Nat → Int := fun o => if o < 18 then M o else N (o - 18)
theorem cat_lo (M N : Nat → Int) {o : Nat} (h : o < 18) : cat M N o = M o := if_pos h
theorem cat_hi (M N : Nat → Int) (o : Nat) : cat M N (o + 18) = N o := by unfold cat; rw [if_neg (by omega)]; rfl
theorem rowOk_lo (M N : Nat → Int) (i : Nat) (h : i < 3) : rowOk (cat M N) i = rowOk M i := by
  unfold rowOk; rw [cat_lo _ _ (by omega), cat_lo _ _ (by omega), cat_lo _ _ (by omega), cat_lo _ _ (by omega), cat_lo _ _ (by omega), cat_lo _ _ (by omega)]
theorem rowOk_hi (M N : Nat → Int) (i : Nat) : rowOk (cat M N) (i + 3) = rowOk N i := by
  unfold rowOk
  rw [show (i + 3) * 6 = i * 6 + 18 by omega, show i * 6 + 18 + 1 = i * 6 + 1 + 18 by omega, show i * 6 + 18 + 2 = i * 6 + 2 + 18 by omega, show i * 6 + 18 + 3 = i * 6 + 3 + 18 by omega, show i * 6 + 18 + 4 = i * 6 + 4 + 18 by omega, show i * 6 + 18 + 5 = i * 6 + 5 + 18 by omega]
  rw [cat_hi, cat_hi, cat_hi, cat_hi, cat_hi, cat_hi]
theorem okC_cat (M N : Nat → Int) (m : Nat) (hM : okCM M) (hN : ∀ i, i < m → okC (N (i * 6)) (N (i * 6 + 1)) ∧ okC (N (i * 6 + 2)) (N (i * 6 + 3)) ∧ okC (N (i * 6 + 4)) (N (i * 6 + 5))) :
    ∀ i, i < m + 3 → okC (cat M N (i * 6)) (cat M N (i * 6 + 1)) ∧ okC (cat M N (i * 6 + 2)) (cat M N (i * 6 + 3)) ∧ okC (cat M N (i * 6 + 4)) (cat M N (i * 6 + 5)) := by
  intro i hi
  by_cases h : i < 3
  · rw [cat_lo _ _ (by omega), cat_lo _ _ (by omega), cat_lo _ _ (by omega), cat_lo _ _ (by omega), cat_lo _ _ (by omega), cat_lo _ _ (by omega)]
    exact hM i h
  · obtain ⟨k, rfl⟩ : ∃ k, i = k + 3 := ⟨i - 3, by omega⟩
    rw [show (k + 3) * 6 = k * 6 + 18 by omega, show k * 6 + 18 + 1 = k * 6 + 1 + 18 by omega, show k * 6 + 18 + 2 = k * 6 + 2 + 18 by omega, show k * 6 + 18 + 3 = k * 6 + 3 + 18 by omega, show k * 6 + 18 + 4 = k * 6 + 4 + 18 by omega, show k * 6 + 18 + 5 = k * 6 + 5 + 18 by omega]
    rw [cat_hi, cat_hi, cat_hi, cat_hi, cat_hi, cat_hi]
    exact hN k (by omega)
theorem okCW_rows {V : Nat → Int} (h : okCW V) : ∀ i, i < 1 → okC (V (i * 6)) (V (i * 6 + 1)) ∧ okC (V (i * 6 + 2)) (V (i * 6 + 3)) ∧ okC (V (i * 6 + 4)) (V (i * 6 + 5)) := by
  intro i hi
  obtain rfl : i = 0 := by omega
  exact h
theorem rows4 (M V : Nat → Int) : rowsE (cat M V) 4 = if okM M ∧ okW V then 0 else 8 := by
  unfold rowsE
  have e : (∀ i, i < 4 → rowOk (cat M V) i) ↔ (okM M ∧ okW V) := by
    constructor
    · intro h
      refine ⟨fun i hi => by rw [← rowOk_lo M V i hi]; exact h i (by omega), ?_⟩
      have := h 3 (by omega)
      rw [show (3 : Nat) = 0 + 3 from rfl, rowOk_hi] at this
      obtain ⟨a, b, c⟩ := this
      have a' : okF (V 0) (V 1) = true := a
      have b' : okF (V 2) (V 3) = true := b
      have c' : okF (V 4) (V 5) = true := c
      unfold okW okV; rw [a', b', c']; rfl
    · rintro ⟨h, k⟩ i hi
      by_cases q : i < 3
      · rw [rowOk_lo M V i q]; exact h i q
      · obtain rfl : i = 0 + 3 := by omega
        rw [rowOk_hi]
        exact okV_in k
  by_cases q : okM M ∧ okW V
  · rw [if_pos q, if_pos (e.2 q)]
  · rw [if_neg q, if_neg (fun h => q (e.1 h))]
theorem check4 (M V : Nat → Int) (hM : okCM M) (hV : okCW V) (W : World) (g cap : Nat) (hg : g < W.heap.size) (hc : ∀ o, o < 24 → W.cell? ⟨g, o, none⟩ = some (.int .i64 (if o < 18 then M o else V (o - 18)))) :
    Calls Try.prog 45 #[.slice (some ⟨g, 0, none⟩) 4 cap] W fun x w' => x = .returned (.int .i64 (if okM M ∧ okW V then 0 else 8)) ∧ Below W.heap.size W w' := by
  have := vec_check (cat M V) g cap 4 (by omega) (okC_cat M V 1 hM (okCW_rows hV)) W hg (fun o ho => hc o (by omega))
  rw [rows4] at this
  exact this

/-- The product of a valid matrix and a valid vector: errors, numbers. -/
def apE0 (M V : Nat → Int) : Int := fsI (doE (M 0) (M 1) (M 2) (M 3) (M 4) (M 5) (V 0) (V 1) (V 2) (V 3) (V 4) (V 5)) (doE (M 6) (M 7) (M 8) (M 9) (M 10) (M 11) (V 0) (V 1) (V 2) (V 3) (V 4) (V 5)) (doE (M 12) (M 13) (M 14) (M 15) (M 16) (M 17) (V 0) (V 1) (V 2) (V 3) (V 4) (V 5))
def apL (M V : Nat → Int) : Nat → Int
  | 0 => doN (M 0) (M 1) (M 2) (M 3) (M 4) (M 5) (V 0) (V 1) (V 2) (V 3) (V 4) (V 5)
  | 1 => doD (M 0) (M 1) (M 2) (M 3) (M 4) (M 5) (V 0) (V 1) (V 2) (V 3) (V 4) (V 5)
  | 2 => doN (M 6) (M 7) (M 8) (M 9) (M 10) (M 11) (V 0) (V 1) (V 2) (V 3) (V 4) (V 5)
  | 3 => doD (M 6) (M 7) (M 8) (M 9) (M 10) (M 11) (V 0) (V 1) (V 2) (V 3) (V 4) (V 5)
  | 4 => doN (M 12) (M 13) (M 14) (M 15) (M 16) (M 17) (V 0) (V 1) (V 2) (V 3) (V 4) (V 5)
  | _ => doD (M 12) (M 13) (M 14) (M 15) (M 16) (M 17) (V 0) (V 1) (V 2) (V 3) (V 4) (V 5)
def apR (M V : Nat → Int) : Nat → Int := fun o => if okM M ∧ okW V then vz (apE0 M V) (apL M V o) else 0
def apE (M V : Nat → Int) : Int := if okM M ∧ okW V then apE0 M V else 8
theorem vec_ApplyM (M V : Nat → Int) (hM : okCM M) (hV : okCW V) (w : World) :
    Calls Try.prog 10 #[.agg #[.int .i64 (M 0), .int .i64 (M 1), .int .i64 (M 2), .int .i64 (M 3), .int .i64 (M 4), .int .i64 (M 5), .int .i64 (M 6), .int .i64 (M 7), .int .i64 (M 8), .int .i64 (M 9), .int .i64 (M 10), .int .i64 (M 11), .int .i64 (M 12), .int .i64 (M 13), .int .i64 (M 14), .int .i64 (M 15), .int .i64 (M 16), .int .i64 (M 17)], .agg #[.int .i64 (V 0), .int .i64 (V 1), .int .i64 (V 2), .int .i64 (V 3), .int .i64 (V 4), .int .i64 (V 5)]] w fun x w' => x = .returned (.tuple #[.agg #[.int .i64 (apR M V 0), .int .i64 (apR M V 1), .int .i64 (apR M V 2), .int .i64 (apR M V 3), .int .i64 (apR M V 4), .int .i64 (apR M V 5)], .int .i64 (apE M V)]) ∧ Below w.heap.size w w' := by
  have CK := check4 M V hM hV
  by_cases ho : okM M ∧ okW V
  · simp only [apR, apE, if_pos ho] at CK ⊢
    exact vec_Apply_ok M V _ _ _ _ _ _ _ (fun w => vec_apply M (V 0) (V 1) (V 2) (V 3) (V 4) (V 5) ho.1 ho.2 w) CK w
  · simp only [apR, apE, if_neg ho] at CK ⊢
    exact vec_Apply_bad M V CK w
/-- A flipped matrix. -/
def flR (M : Nat → Int) : Nat → Int := fun o => if okM M then fpP M o else 0
theorem vec_FlipM (M : Nat → Int) (hM : okCM M) (w : World) :
    Calls Try.prog 14 #[.agg #[.int .i64 (M 0), .int .i64 (M 1), .int .i64 (M 2), .int .i64 (M 3), .int .i64 (M 4), .int .i64 (M 5), .int .i64 (M 6), .int .i64 (M 7), .int .i64 (M 8), .int .i64 (M 9), .int .i64 (M 10), .int .i64 (M 11), .int .i64 (M 12), .int .i64 (M 13), .int .i64 (M 14), .int .i64 (M 15), .int .i64 (M 16), .int .i64 (M 17)]] w fun x w' => x = .returned (.tuple #[.agg #[.int .i64 ((flR M) 0), .int .i64 ((flR M) 1), .int .i64 ((flR M) 2), .int .i64 ((flR M) 3), .int .i64 ((flR M) 4), .int .i64 ((flR M) 5), .int .i64 ((flR M) 6), .int .i64 ((flR M) 7), .int .i64 ((flR M) 8), .int .i64 ((flR M) 9), .int .i64 ((flR M) 10), .int .i64 ((flR M) 11), .int .i64 ((flR M) 12), .int .i64 ((flR M) 13), .int .i64 ((flR M) 14), .int .i64 ((flR M) 15), .int .i64 ((flR M) 16), .int .i64 ((flR M) 17)], .int .i64 (chM M)]) ∧ Below w.heap.size w w' := by
  by_cases ho : okM M
  · rw [show flR M = fpP M from funext (fun o => if_pos ho), chM_ok ho]; exact vec_Flip_ok M hM ho w
  · rw [show flR M = fun _ => 0 from funext (fun o => if_neg ho), chM_bad ho]; exact vec_Flip_bad M hM ho w
/-- The determinant. -/
def dmN (M : Nat → Int) : Int := if okM M then deN M else 0
def dmD (M : Nat → Int) : Int := if okM M then deD M else 0
def dmE (M : Nat → Int) : Int := if okM M then deE M else 8
theorem vec_DetM (M : Nat → Int) (hM : okCM M) (w : World) :
    Calls Try.prog 16 #[.agg #[.int .i64 (M 0), .int .i64 (M 1), .int .i64 (M 2), .int .i64 (M 3), .int .i64 (M 4), .int .i64 (M 5), .int .i64 (M 6), .int .i64 (M 7), .int .i64 (M 8), .int .i64 (M 9), .int .i64 (M 10), .int .i64 (M 11), .int .i64 (M 12), .int .i64 (M 13), .int .i64 (M 14), .int .i64 (M 15), .int .i64 (M 16), .int .i64 (M 17)]] w fun x w' => x = .returned (.tuple #[.agg #[.int .i64 (dmN M), .int .i64 (dmD M)], .int .i64 (dmE M)]) ∧ Below w.heap.size w w' := by
  unfold dmN dmD dmE
  by_cases ho : okM M
  · rw [if_pos ho, if_pos ho, if_pos ho]; exact vec_Det_ok M hM ho w
  · rw [if_neg ho, if_neg ho, if_neg ho]; exact vec_Det_bad M hM ho w
end Go.Proofs.Ytdolfdmgdknboaa
