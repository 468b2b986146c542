/-
  Matrices and vectors: what Apply, Flip and Det of the reference return.  Products of matrices, by the reference.  The matrix that changes nothing, by the reference.
-/
import Derived.Test.YtlijkebdaalldaaKu
import Derived.Test.YtlijkebdaalldaaME
import Derived.Test.YtlijkebdaalldaaMJ
import Derived.Test.YtlijkebdaalldaaMK
import Derived.Test.YtlijkebdaalldaaMQ
import Derived.Test.YtlijkebdaalldaaMA
import Derived.Test.YtlijkebdaalldaaMF
import Derived.Lib.Hide
import Derived.IntWalk
import Derived.Test.YtlijkebdaalldaaMG
namespace Go.Proofs.Ytlijkebdaalldaa
open Go.RowKit
set_option linter.unusedVariables false
set_option linter.unusedSimpArgs false

theorem dt_of {a b c d e f g h i j k l : Int} (o1 : okV a b c d e f = true) (o2 : okV g h i j k l = true) (w : World) :
    Calls Try.prog 53 #[.agg #[.int .i64 a, .int .i64 b, .int .i64 c, .int .i64 d, .int .i64 e, .int .i64 f], .agg #[.int .i64 g, .int .i64 h, .int .i64 i, .int .i64 j, .int .i64 k, .int .i64 l]] w fun x w' => x = .returned (.tuple #[.agg #[.int .i64 (doN a b c d e f g h i j k l), .int .i64 (doD a b c d e f g h i j k l)], .int .i64 (doE a b c d e f g h i j k l)]) ∧ Below w.heap.size w w' := by
  obtain ⟨p1, p2, p3⟩ := okC_all o1
  obtain ⟨q1, q2, q3⟩ := okC_all o2
  have := ref2_Dot a b c d e f g h i j k l p1 p2 p3 q1 q2 q3 w
  rw [dtN, dtD, dtE, if_pos ⟨o1, o2⟩, if_pos ⟨o1, o2⟩, if_pos ⟨o1, o2⟩] at this
  exact this
theorem ref2_ApplyM (M V : Nat → Int) (hM : okCM M) (hV : okCW V) (w : World) :
    Calls Try.prog 23 #[.agg #[.int .i64 (M 0), .int .i64 (M 1), .int .i64 (M 2), .int .i64 (M 3), .int .i64 (M 4), .int .i64 (M 5), .int .i64 (M 6), .int .i64 (M 7), .int .i64 (M 8), .int .i64 (M 9), .int .i64 (M 10), .int .i64 (M 11), .int .i64 (M 12), .int .i64 (M 13), .int .i64 (M 14), .int .i64 (M 15), .int .i64 (M 16), .int .i64 (M 17)], .agg #[.int .i64 (V 0), .int .i64 (V 1), .int .i64 (V 2), .int .i64 (V 3), .int .i64 (V 4), .int .i64 (V 5)]] w fun x w' => x = .returned (.tuple #[.agg #[.int .i64 (apR M V 0), .int .i64 (apR M V 1), .int .i64 (apR M V 2), .int .i64 (apR M V 3), .int .i64 (apR M V 4), .int .i64 (apR M V 5)], .int .i64 (apE M V)]) ∧ Below w.heap.size w w' := by
  have VA := ref2_Valid M hM
  have CV := fun w => ref2_Check (V 0) (V 1) (V 2) (V 3) (V 4) (V 5) hV.1 hV.2.1 hV.2.2 w
  by_cases h1 : okM M
  · rw [chM_ok h1] at VA
    by_cases h2 : okW V
    · have ho : okM M ∧ okW V := ⟨h1, h2⟩
      simp only [apR, apE, if_pos ho]
      rw [show chV (V 0) (V 1) (V 2) (V 3) (V 4) (V 5) = 0 from if_pos h2] at CV
      obtain ⟨u1, u2, u3⟩ := okM_row M h1
      exact ref2_apply_ok M V _ _ _ _ _ _ _ _ _ VA CV (fun w => dt_of u1 h2 w) (fun w => dt_of u2 h2 w) (fun w => dt_of u3 h2 w) (fun w => ref2_first _ _ _ w) _ _ _ _ _ _ (fun w => ref2_vec _ _ _ _ _ _ _ w) w
    · have ho : ¬ (okM M ∧ okW V) := fun k => h2 k.2
      simp only [apR, apE, if_neg ho]
      rw [show chV (V 0) (V 1) (V 2) (V 3) (V 4) (V 5) = 8 from if_neg h2] at CV
      exact ref2_apply_badV M V VA CV w
  · have ho : ¬ (okM M ∧ okW V) := fun k => h1 k.1
    simp only [apR, apE, if_neg ho]
    rw [chM_bad h1] at VA
    exact ref2_apply_badM M V VA w

theorem ref2_FlipM (M : Nat → Int) (hM : okCM M) (w : World) :
    Calls Try.prog 25 #[.agg #[.int .i64 (M 0), .int .i64 (M 1), .int .i64 (M 2), .int .i64 (M 3), .int .i64 (M 4), .int .i64 (M 5), .int .i64 (M 6), .int .i64 (M 7), .int .i64 (M 8), .int .i64 (M 9), .int .i64 (M 10), .int .i64 (M 11), .int .i64 (M 12), .int .i64 (M 13), .int .i64 (M 14), .int .i64 (M 15), .int .i64 (M 16), .int .i64 (M 17)]] w fun x w' => x = .returned (.tuple #[.agg #[.int .i64 ((flR M) 0), .int .i64 ((flR M) 1), .int .i64 ((flR M) 2), .int .i64 ((flR M) 3), .int .i64 ((flR M) 4), .int .i64 ((flR M) 5), .int .i64 ((flR M) 6), .int .i64 ((flR M) 7), .int .i64 ((flR M) 8), .int .i64 ((flR M) 9), .int .i64 ((flR M) 10), .int .i64 ((flR M) 11), .int .i64 ((flR M) 12), .int .i64 ((flR M) 13), .int .i64 ((flR M) 14), .int .i64 ((flR M) 15), .int .i64 ((flR M) 16), .int .i64 ((flR M) 17)], .int .i64 (chM M)]) ∧ Below w.heap.size w w' := by
  have VA := ref2_Valid M hM
  by_cases ho : okM M
  · rw [chM_ok ho] at VA
    rw [show flR M = fpP M from funext (fun o => if_pos ho), chM_ok ho]; exact ref2_flip_ok M VA w
  · rw [chM_bad ho] at VA
    rw [show flR M = fun _ => 0 from funext (fun o => if_neg ho), chM_bad ho]; exact ref2_flip_bad M VA w

def crL (M : Nat → Int) : Nat → Int
  | 0 => vz (deC M) (twN (M 8) (M 9) (M 16) (M 17) (-(M 10)) (M 11) (M 14) (M 15))
  | 1 => vz (deC M) (twD (M 8) (M 9) (M 16) (M 17) (-(M 10)) (M 11) (M 14) (M 15))
  | 2 => vz (deC M) (twN (M 10) (M 11) (M 12) (M 13) (-(M 6)) (M 7) (M 16) (M 17))
  | 3 => vz (deC M) (twD (M 10) (M 11) (M 12) (M 13) (-(M 6)) (M 7) (M 16) (M 17))
  | 4 => vz (deC M) (twN (M 6) (M 7) (M 14) (M 15) (-(M 8)) (M 9) (M 12) (M 13))
  | _ => vz (deC M) (twD (M 6) (M 7) (M 14) (M 15) (-(M 8)) (M 9) (M 12) (M 13))
theorem ref2_DetM (M : Nat → Int) (hM : okCM M) (w : World) :
    Calls Try.prog 26 #[.agg #[.int .i64 (M 0), .int .i64 (M 1), .int .i64 (M 2), .int .i64 (M 3), .int .i64 (M 4), .int .i64 (M 5), .int .i64 (M 6), .int .i64 (M 7), .int .i64 (M 8), .int .i64 (M 9), .int .i64 (M 10), .int .i64 (M 11), .int .i64 (M 12), .int .i64 (M 13), .int .i64 (M 14), .int .i64 (M 15), .int .i64 (M 16), .int .i64 (M 17)]] w fun x w' => x = .returned (.tuple #[.agg #[.int .i64 (dmN M), .int .i64 (dmD M)], .int .i64 (dmE M)]) ∧ Below w.heap.size w w' := by
  have VA := ref2_Valid M hM
  unfold dmN dmD dmE
  by_cases ho : okM M
  · rw [if_pos ho, if_pos ho, if_pos ho]
    rw [chM_ok ho] at VA
    obtain ⟨u1, u2, u3⟩ := okM_row M ho
    obtain ⟨q1, q2, q3⟩ := okC_all u2
    obtain ⟨r1, r2, r3⟩ := okC_all u3
    have CX := fun w => ref2_Cross (M 6) (M 7) (M 8) (M 9) (M 10) (M 11) (M 12) (M 13) (M 14) (M 15) (M 16) (M 17) q1 q2 q3 r1 r2 r3 w
    have ec : crE (M 6) (M 7) (M 8) (M 9) (M 10) (M 11) (M 12) (M 13) (M 14) (M 15) (M 16) (M 17) = deC M := by rw [crE, if_pos ⟨u2, u3⟩]; rfl
    rw [ec] at CX
    have := ref2_det_ok M (crL M) (deC M) (doN (M 0) (M 1) (M 2) (M 3) (M 4) (M 5) (twN (M 8) (M 9) (M 16) (M 17) (-(M 10)) (M 11) (M 14) (M 15)) (twD (M 8) (M 9) (M 16) (M 17) (-(M 10)) (M 11) (M 14) (M 15)) (twN (M 10) (M 11) (M 12) (M 13) (-(M 6)) (M 7) (M 16) (M 17)) (twD (M 10) (M 11) (M 12) (M 13) (-(M 6)) (M 7) (M 16) (M 17)) (twN (M 6) (M 7) (M 14) (M 15) (-(M 8)) (M 9) (M 12) (M 13)) (twD (M 6) (M 7) (M 14) (M 15) (-(M 8)) (M 9) (M 12) (M 13))) (doD (M 0) (M 1) (M 2) (M 3) (M 4) (M 5) (twN (M 8) (M 9) (M 16) (M 17) (-(M 10)) (M 11) (M 14) (M 15)) (twD (M 8) (M 9) (M 16) (M 17) (-(M 10)) (M 11) (M 14) (M 15)) (twN (M 10) (M 11) (M 12) (M 13) (-(M 6)) (M 7) (M 16) (M 17)) (twD (M 10) (M 11) (M 12) (M 13) (-(M 6)) (M 7) (M 16) (M 17)) (twN (M 6) (M 7) (M 14) (M 15) (-(M 8)) (M 9) (M 12) (M 13)) (twD (M 6) (M 7) (M 14) (M 15) (-(M 8)) (M 9) (M 12) (M 13))) (doE (M 0) (M 1) (M 2) (M 3) (M 4) (M 5) (twN (M 8) (M 9) (M 16) (M 17) (-(M 10)) (M 11) (M 14) (M 15)) (twD (M 8) (M 9) (M 16) (M 17) (-(M 10)) (M 11) (M 14) (M 15)) (twN (M 10) (M 11) (M 12) (M 13) (-(M 6)) (M 7) (M 16) (M 17)) (twD (M 10) (M 11) (M 12) (M 13) (-(M 6)) (M 7) (M 16) (M 17)) (twN (M 6) (M 7) (M 14) (M 15) (-(M 8)) (M 9) (M 12) (M 13)) (twD (M 6) (M 7) (M 14) (M 15) (-(M 8)) (M 9) (M 12) (M 13))) VA CX (fun e0 w => ?_) w
    · exact this
    · have o4 := x_ok (M 6) (M 7) (M 8) (M 9) (M 10) (M 11) (M 12) (M 13) (M 14) (M 15) (M 16) (M 17) u2 u3 e0
      have := dt_of u1 o4 w
      simp only [crL, e0, vz0]
      exact this
  · rw [if_neg ho, if_neg ho, if_neg ho]
    rw [chM_bad ho] at VA
    exact ref2_det_bad M VA w
end Go.Proofs.Ytlijkebdaalldaa
namespace Go.Proofs.Ytlijkebdaalldaa
open Go.RowKit
set_option linter.unusedVariables false
set_option linter.unusedSimpArgs false

theorem ref2_Row (M : Nat → Int) (i : Nat) (hi : i < 3) (z : Int) (hz : z = i) (w : World) :
    Calls Try.prog 54 #[.agg #[.int .i64 (M 0), .int .i64 (M 1), .int .i64 (M 2), .int .i64 (M 3), .int .i64 (M 4), .int .i64 (M 5), .int .i64 (M 6), .int .i64 (M 7), .int .i64 (M 8), .int .i64 (M 9), .int .i64 (M 10), .int .i64 (M 11), .int .i64 (M 12), .int .i64 (M 13), .int .i64 (M 14), .int .i64 (M 15), .int .i64 (M 16), .int .i64 (M 17)], .int .i64 z] w fun x w' => x = .returned (.agg #[.int .i64 (M (6 * i)), .int .i64 (M (6 * i + 1)), .int .i64 (M (6 * i + 2)), .int .i64 (M (6 * i + 3)), .int .i64 (M (6 * i + 4)), .int .i64 (M (6 * i + 5))]) ∧ Below w.heap.size w w' := by
  subst hz
  rcases (show i = 0 ∨ i = 1 ∨ i = 2 by omega) with rfl | rfl | rfl
  · exact ref2_Row0 M w
  · exact ref2_Row1 M w
  · exact ref2_Row2 M w
theorem ref2_Col (N : Nat → Int) (k : Nat) (hk : k < 3) (y : Int) (hy : y = k) (w : World) :
    Calls Try.prog 57 #[.agg #[.int .i64 (N 0), .int .i64 (N 1), .int .i64 (N 2), .int .i64 (N 3), .int .i64 (N 4), .int .i64 (N 5), .int .i64 (N 6), .int .i64 (N 7), .int .i64 (N 8), .int .i64 (N 9), .int .i64 (N 10), .int .i64 (N 11), .int .i64 (N 12), .int .i64 (N 13), .int .i64 (N 14), .int .i64 (N 15), .int .i64 (N 16), .int .i64 (N 17)], .int .i64 y] w fun x w' => x = .returned (.agg #[.int .i64 (N (2 * k)), .int .i64 (N (2 * k + 1)), .int .i64 (N (6 + 2 * k)), .int .i64 (N (6 + 2 * k + 1)), .int .i64 (N (12 + 2 * k)), .int .i64 (N (12 + 2 * k + 1))]) ∧ Below w.heap.size w w' := by
  subst hy
  rcases (show k = 0 ∨ k = 1 ∨ k = 2 by omega) with rfl | rfl | rfl
  · exact ref2_Col0 N w
  · exact ref2_Col1 N w
  · exact ref2_Col2 N w
def prN (P : Nat → Int) (i k : Nat) : Nat → Int := fun o => if o / 6 < i ∨ (o / 6 = i ∧ o % 6 / 2 < k) then P o else 0

theorem prN_next (P : Nat → Int) (i : Nat) : ∀ o, o < 18 → prN P i 3 o = prN P (i + 1) 0 o := by
  intro o ho
  unfold prN
  by_cases h : o / 6 < i ∨ (o / 6 = i ∧ o % 6 / 2 < 3)
  · rw [if_pos h, if_pos (by omega)]
  · rw [if_neg h, if_neg (by omega)]

set_option maxRecDepth 100000 in
set_option maxHeartbeats 8000000 in
theorem ref2_prod_ok (M N P E : Nat → Int) (VA : ∀ w : World, Calls Try.prog 51 #[.agg #[.int .i64 (M 0), .int .i64 (M 1), .int .i64 (M 2), .int .i64 (M 3), .int .i64 (M 4), .int .i64 (M 5), .int .i64 (M 6), .int .i64 (M 7), .int .i64 (M 8), .int .i64 (M 9), .int .i64 (M 10), .int .i64 (M 11), .int .i64 (M 12), .int .i64 (M 13), .int .i64 (M 14), .int .i64 (M 15), .int .i64 (M 16), .int .i64 (M 17)]] w fun x w' => x = .returned (.int .i64 0) ∧ Below w.heap.size w w') (VB : ∀ w : World, Calls Try.prog 51 #[.agg #[.int .i64 (N 0), .int .i64 (N 1), .int .i64 (N 2), .int .i64 (N 3), .int .i64 (N 4), .int .i64 (N 5), .int .i64 (N 6), .int .i64 (N 7), .int .i64 (N 8), .int .i64 (N 9), .int .i64 (N 10), .int .i64 (N 11), .int .i64 (N 12), .int .i64 (N 13), .int .i64 (N 14), .int .i64 (N 15), .int .i64 (N 16), .int .i64 (N 17)]] w fun x w' => x = .returned (.int .i64 0) ∧ Below w.heap.size w w')
    (D : ∀ i k, i < 3 → k < 3 → ∀ w : World, Calls Try.prog 53 #[.agg #[.int .i64 (M (6 * i)), .int .i64 (M (6 * i + 1)), .int .i64 (M (6 * i + 2)), .int .i64 (M (6 * i + 3)), .int .i64 (M (6 * i + 4)), .int .i64 (M (6 * i + 5))], .agg #[.int .i64 (N (2 * k)), .int .i64 (N (2 * k + 1)), .int .i64 (N (6 + 2 * k)), .int .i64 (N (6 + 2 * k + 1)), .int .i64 (N (12 + 2 * k)), .int .i64 (N (12 + 2 * k + 1))]] w fun x w' => x = .returned (.tuple #[.agg #[.int .i64 (P (6 * i + 2 * k)), .int .i64 (P (6 * i + 2 * k + 1))], .int .i64 (E (3 * i + k))]) ∧ Below w.heap.size w w')
    (w : World) :
    Calls Try.prog 24 #[.agg #[.int .i64 (M 0), .int .i64 (M 1), .int .i64 (M 2), .int .i64 (M 3), .int .i64 (M 4), .int .i64 (M 5), .int .i64 (M 6), .int .i64 (M 7), .int .i64 (M 8), .int .i64 (M 9), .int .i64 (M 10), .int .i64 (M 11), .int .i64 (M 12), .int .i64 (M 13), .int .i64 (M 14), .int .i64 (M 15), .int .i64 (M 16), .int .i64 (M 17)], .agg #[.int .i64 (N 0), .int .i64 (N 1), .int .i64 (N 2), .int .i64 (N 3), .int .i64 (N 4), .int .i64 (N 5), .int .i64 (N 6), .int .i64 (N 7), .int .i64 (N 8), .int .i64 (N 9), .int .i64 (N 10), .int .i64 (N 11), .int .i64 (N 12), .int .i64 (N 13), .int .i64 (N 14), .int .i64 (N 15), .int .i64 (N 16), .int .i64 (N 17)]] w fun x w' => x = .returned (.tuple #[.agg #[.int .i64 ((prR E P) 0), .int .i64 ((prR E P) 1), .int .i64 ((prR E P) 2), .int .i64 ((prR E P) 3), .int .i64 ((prR E P) 4), .int .i64 ((prR E P) 5), .int .i64 ((prR E P) 6), .int .i64 ((prR E P) 7), .int .i64 ((prR E P) 8), .int .i64 ((prR E P) 9), .int .i64 ((prR E P) 10), .int .i64 ((prR E P) 11), .int .i64 ((prR E P) 12), .int .i64 ((prR E P) 13), .int .i64 ((prR E P) 14), .int .i64 ((prR E P) 15), .int .i64 ((prR E P) 16), .int .i64 ((prR E P) 17)], .int .i64 (feI E 9)]) ∧ Below w.heap.size w w' := by
  have HD := Lib.hid D
  clear D
  have xR := xRul
  have dz1 := dzA
  have dz2 := dzB
  go_enter Try.func24, Try.ntmps24
  go_upto_region 1 with fail
  refine opq (fun wx => Cs wx w.heap.size 18 M ∧ Cs wx (w.heap.size + 1) 18 N ∧ Cs wx (w.heap.size + 1 + 1) 18 (fun _ => 0) ∧ Fs wx (w.heap.size + 1 + 1) 18 ∧ w.heap.size + 1 + 1 < wx.heap.size ∧ Below w.heap.size w wx) ?_ ?_
  · exact ⟨cs_alloc _ (cs_alloc _ (cs_new rfl (arrM M)) (by simp)) (by simp <;> omega), cs_alloc _ (cs_new (by simp) (arrM N)) (by simp), cs_new (by simp) arr0, fs_new (by simp), by simp, kb⟩
  rintro wz ⟨cM, cN, cR, fR, zs, HBa⟩
  go_step
  refine load18 (.tmp 2) _ M cM rfl rfl rfl ?_
  simp only [putA]
  refine wpList_plain rfl (fun K hK => ?_)
  go_big_op
  with_reducible refine (VA _).mono ?_
  rintro e w1 ⟨rfl, hb⟩
  simp only []
  refine hK _ _ ?_
  clear hK K
  replace cM := cs_below cM hb (by omega)
  replace cN := cs_below cN hb (by omega)
  replace cR := cs_below cR hb (by omega)
  replace fR := fs_below fR hb (by omega)
  replace HBa := HBa.trans (hb.mono (by omega))
  replace zs : w.heap.size + 1 + 1 < w1.heap.size := Nat.lt_of_lt_of_le zs hb.size
  clear hb VA
  refine wpList_plain rfl (fun K hK => ?_)
  go_big_op
  refine hK _ _ ?_
  clear hK K
  refine wpList_plain rfl (fun K hK => ?_)
  go_big_op
  refine hK _ _ ?_
  clear hK K
  refine load18g (.tmp 3) _ N cN (by kernel_rfl) rfl rfl ?_
  simp only [putA]
  go_wp2_with fail
  with_reducible refine (VB _).mono ?_
  rintro e w2 ⟨rfl, hb⟩
  replace cM := cs_below cM hb (by omega)
  replace cN := cs_below cN hb (by omega)
  replace cR := cs_below cR hb (by omega)
  replace fR := fs_below fR hb (by omega)
  replace HBa := HBa.trans (hb.mono (by omega))
  replace zs : w.heap.size + 1 + 1 < w2.heap.size := Nat.lt_of_lt_of_le zs hb.size
  clear hb VB
  go_upto_region 3 with fail
  go_step
  refine wpList_plain rfl (fun K hK => ?_)
  go_big_op
  refine hK _ _ ?_
  clear hK K
  refine wpList_plain rfl (fun K hK => ?_)
  go_big_op
  refine hK _ _ ?_
  clear hK K
  refine store18 (.tmp 6) (.tmp 20) w2.heap.size (fun _ => 0) (fun _ => 0) (cs_new rfl arr0) (fs_new rfl) rfl rfl rfl rfl ?_
  intro wa cX fX sX bX
  have HB0 := bX w2.heap.size w2 (Nat.le_refl _) (bal (b0 _) _)
  have zg : w2.heap.size < wa.heap.size := by rw [sX]; simp
  replace cM := cs_below cM HB0 (by omega)
  replace cN := cs_below cN HB0 (by omega)
  replace cR := cs_below cR HB0 (by omega)
  replace fR := fs_below fR HB0 (by omega)
  replace HBa := HBa.trans (HB0.mono (by omega))
  have cO : Cs wa w2.heap.size 18 (prN P 0 0) := cs_eq cX (by apply cases18 <;> rfl)
  have fO := fX
  clear cX fX sX bX HB0
  generalize w2.heap.size = g at *
  clear w2 w1 wz
  go_wp2_with fail
  go_loopg [7] 3 (fun kk s9 wr => ∃ (i : Nat) (z : Int), kk = 3 - i ∧ s9 = .int .i64 z ∧ z = i ∧ i ≤ 3 ∧ feI E (i * 3) = 0 ∧ Cs wr g 18 (prN P i 0) ∧ Fs wr g 18 ∧ Below g wa wr ∧ wa.heap.size ≤ wr.heap.size)
  case atStart => exact ⟨0, 0, rfl, rfl, rfl, by omega, rfl, cO, fO, Below.refl _ _, Nat.le_refl _⟩
  clear cO fO
  obtain ⟨i, z, rfl, rfl, hz, hi, hF, cI, fI, hbI, hzI⟩ := hrel
  have hFo := Lib.hid hF
  clear hF
  by_cases hi4 : i = 3
  · subst hi4
    obtain rfl : z = 3 := hz
    have cF : Cs wr g 18 P := cs_eq cI (by apply cases18 <;> rfl)
    replace cR := cs_below cR hbI (by omega)
    replace fR := fs_below fR hbI (by omega)
    replace HBa := HBa.trans (hbI.mono (by omega))
    clear cI fI hbI
    go_upto_region 14 with fail
    go_step
    refine load18 (.tmp 6) _ P cF rfl rfl rfl ?_
    clear cF
    refine store18 (.tmp 4) (.tmp 48) (w.heap.size + 1 + 1) P (fun _ => 0) cR fR rfl rfl rfl rfl ?_
    intro wx cX fX sX bX
    have HBx := bX w.heap.size w (by omega) HBa
    clear cR fR HBa bX fX sX
    go_wp2
    refine bodyPost_ret (res_mat2 (v := .int .i64 0) Try.results24 rfl rfl cX) rfl ?_
    have e9 : feI E 9 = 0 := hFo.out
    exact ⟨by rw [e9, show prR E P = P from funext (fun o => by rw [prR, e9, vz0])], HBx⟩
  · have hi3 : i < 3 := by omega
    have zi : z < 3 := by omega
    have zi0 : 0 ≤ z := by omega
    have HZ := Lib.hid hz
    clear hz hi
    go_wp2_with fail
    go_loopg [8] 3 (fun kk s14 wv => ∃ (k : Nat) (y : Int), kk = 3 - k ∧ s14 = .int .i64 y ∧ y = k ∧ k ≤ 3 ∧ feI E (i * 3 + k) = 0 ∧ Cs wv g 18 (prN P i k) ∧ Fs wv g 18 ∧ Below g wa wv ∧ wa.heap.size ≤ wv.heap.size)
    case atStart => exact ⟨0, 0, rfl, rfl, rfl, by omega, hFo.out, kc, kf, kg, by (first | omega | (simp [ext_size, World.setCell] <;> omega))⟩
    clear cI fI hbI hzI hFo
    obtain ⟨k, y, rfl, rfl, hy, hk, hF, cI, fI, hbI, hzI⟩ := hrel
    have hFo := Lib.hid hF
    clear hF
    have hM := cs_below cM hbI (by omega)
    have hN := cs_below cN hbI (by omega)
    have zv : g < wr.heap.size := by omega
    by_cases hk3 : k = 3
    · subst hk3
      obtain rfl : y = 3 := hy
      have wz : IntKind.i64.wrap (z + 1) = z + 1 := IntWalk.i64_in _ (by omega)
      go_wp2_with fail
      go_roundg (3 - (i + 1))
      case measure => omega
      case rel => exact ⟨i + 1, z + 1, rfl, rfl, by have := HZ.out; omega, by omega, by rw [show (i + 1) * 3 = i * 3 + 3 by omega]; exact hFo.out, cs_eq cI (prN_next P i), fI, hbI, hzI⟩
    · have hk4 : k < 3 := by omega
      have zk : y < 3 := by omega
      have zk0 : 0 ≤ y := by omega
      have HY := Lib.hid hy
      clear hy hk
      have Da := HD.out i k hi3 hk4
      have Ra := fun w => ref2_Row M i hi3 z HZ.out w
      have Ca := fun w => ref2_Col N k hk4 y HY.out w
      generalize hp0 : P (6 * i + 2 * k) = p0 at Da
      generalize hp1 : P (6 * i + 2 * k + 1) = p1 at Da
      generalize he0 : E (3 * i + k) = e0 at Da
      have Hp0 := Lib.hid hp0
      have Hp1 := Lib.hid hp1
      have He0 := Lib.hid he0
      clear hp0 hp1 he0
      go_wp2_with fail
      go_cut [9, 10] (fun s9 s10 wx => ∃ q : Nat, s9 = .pointer (some ⟨q, 0, none⟩) ∧ s10 = .int .i64 e0 ∧ wx.cell? ⟨q, 0, none⟩ = some (.int .i64 p0) ∧ wx.cell? ⟨q, 1, none⟩ = some (.int .i64 p1) ∧ g < q ∧ q < wx.heap.size ∧ Below wr.heap.size wr wx)
      case first =>
        refine wp_region_held_drew (S := (fun w' => Below wr.heap.size wr w')) (by kernel_rfl) ?_ (fun hHeld => ?_)
        · exact Below.drew (Below.refl _ _)
        refine take18 0 (.tmp 2) w.heap.size M rfl rfl (by kernel_rfl) (by kernel_rfl) (by kernel_rfl) (fun _ _ _ h => h) (by rfl) rfl (fun w k => cs_below hM k (by omega)) (by assumption) ?_
        try simp only [putA]
        refine wpAnyH_take (i := 1) (oi := _) (v := ?_) rfl (by kernel_rfl) (by kernel_rfl) (by kernel_rfl) (fun _ _ _ h => h) (Or.inl ⟨by rfl, ?_⟩) (by assumption) ?_
        rotate_left
        · (intro w hSw; (try dsimp only at hSw); go_simp; (try with_reducible rfl))
        try simp only [putA]
        refine take18 3 (.tmp 3) (w.heap.size + 1) N rfl rfl (by kernel_rfl) (by kernel_rfl) (by kernel_rfl) (fun _ _ _ h => h) (by rfl) rfl (fun w k => cs_below hN k (by omega)) (by assumption) ?_
        try simp only [putA]
        refine wpAnyH_take (i := 4) (oi := _) (v := ?_) rfl (by kernel_rfl) (by kernel_rfl) (by kernel_rfl) (fun _ _ _ h => h) (Or.inl ⟨by rfl, ?_⟩) (by assumption) ?_
        rotate_left
        · (intro w hSw; (try dsimp only at hSw); go_simp; (try with_reducible rfl))
        try simp only [putA]
        refine wpAnyH_ready (rs := [2, 10]) (by kernel_rfl) (by simp) ?_
        refine AllReadyH.cons (o := _) rfl (fun K hK => ?_) ?_
        · go_simp
          with_reducible refine (Ra _).mono ?_
          rintro e w' ⟨rfl, hb⟩
          obtain ⟨l9, d9, rfl⟩ := toExt hb
          clear hb
          (try go_wp2_with fail)
          refine hK.out _ _ ?_ (fun hHeld2 => ?_)
          · exact kg
          clear hK K hHeld
          have hHeld := hHeld2
          clear hHeld2
          try simp only [putA]
          refine wpAnyH_ready (rs := [5, 10]) (by kernel_rfl) (by simp) ?_
          refine AllReadyH.cons (o := _) rfl (fun K hK => ?_) ?_
          · go_simp
            with_reducible refine (Ca _).mono ?_
            rintro e w' ⟨rfl, hb⟩
            obtain ⟨l9, d9, rfl⟩ := toExt hb
            clear hb
            (try go_wp2_with fail)
            refine hK.out _ _ ?_ (fun hHeld2 => ?_)
            · exact kg
            clear hK K hHeld
            have hHeld := hHeld2
            clear hHeld2
            try simp only [putA]
            refine wpAnyH_ready (rs := [6, 10]) (by kernel_rfl) (by simp) ?_
            refine AllReadyH.cons (o := _) rfl (fun K hK => ?_) ?_
            · go_simp
              with_reducible refine (Da _).mono ?_
              rintro e w' ⟨rfl, hb⟩
              obtain ⟨l9, d9, rfl⟩ := toExt hb
              clear hb
              (try go_wp2_with fail)
              refine hK.out _ _ ?_ (fun hHeld2 => ?_)
              · exact kg
              clear hK K hHeld
              have hHeld := hHeld2
              clear hHeld2
              try simp only [putA]
              refine wpAnyH_take (i := 7) (oi := _) (v := ?_) rfl (by kernel_rfl) (by kernel_rfl) (by kernel_rfl) (fun _ _ _ h => h) (Or.inl ⟨by rfl, ?_⟩) (by assumption) ?_
              rotate_left
              · (intro w hSw; (try dsimp only at hSw); go_simp; (try with_reducible rfl))
              try simp only [putA]
              refine wpAnyH_take (i := 8) (oi := _) (v := ?_) rfl (by kernel_rfl) (by kernel_rfl) (by kernel_rfl) (fun _ _ _ h => h) (Or.inl ⟨by rfl, ?_⟩) (by assumption) ?_
              rotate_left
              · (intro w hSw; (try dsimp only at hSw); go_simp; (try with_reducible rfl))
              try simp only [putA]
              refine wpAnyH_take (i := 9) (oi := _) (v := ?_) rfl (by kernel_rfl) (by kernel_rfl) (by kernel_rfl) (fun _ _ _ h => h) (Or.inl ⟨by rfl, ?_⟩) (by assumption) ?_
              rotate_left
              · (intro w hSw; (try dsimp only at hSw); go_simp; (try with_reducible rfl))
              try simp only [putA]
              refine wpAnyH_ready (rs := [10]) (by kernel_rfl) (by simp) ?_
              refine AllReadyH.cons (o := _) rfl (fun K hK => ?_) ?_
              · go_simp
                refine hK.out _ _ ?_ (fun hHeld2 => ?_)
                · exact kg
                clear hK K hHeld
                have hHeld := hHeld2
                clear hHeld2
                try simp only [putA]
                refine wpAnyH_ready (rs := [11]) (by kernel_rfl) (by simp) ?_
                refine AllReadyH.cons (o := _) rfl (fun K hK => ?_) ?_
                · go_simp
                  refine hK.out _ _ ?_ (fun hHeld2 => ?_)
                  · exact kg
                  clear hK K hHeld
                  have hHeld := hHeld2
                  clear hHeld2
                  try simp only [putA]
                  refine wpAnyH_ready (rs := [12]) (by kernel_rfl) (by simp) ?_
                  refine AllReadyH.cons (o := _) rfl (fun K hK => ?_) ?_
                  · go_simp
                    refine hK.out _ _ ?_ (fun hHeld2 => ?_)
                    · exact kg
                    clear hK K hHeld
                    have hHeld := hHeld2
                    clear hHeld2
                    try simp only [putA]
                    refine wpAnyH_done (by kernel_rfl) ?_ _
                    (try go_wp2_with fail)
                    go_meet
                    exact ⟨_, rfl, rfl, kk, kk, by (first | omega | (simp [ext_size, World.setCell] <;> omega)), by (first | omega | (simp [ext_size, World.setCell] <;> omega)), kg⟩
                  exact AllReadyH.nil
                exact AllReadyH.nil
              exact AllReadyH.nil
            refine AllReadyH.cons (o := _) rfl (fun K hK => ?_) ?_
            · go_simp
              refine hK.out _ _ ?_ (fun hHeld2 => ?_)
              · exact kg
              clear hK K hHeld
              have hHeld := hHeld2
              clear hHeld2
              try simp only [putA]
              refine wpAnyH_ready (rs := [6]) (by kernel_rfl) (by simp) ?_
              refine AllReadyH.cons (o := _) rfl (fun K hK => ?_) ?_
              · go_simp
                with_reducible refine (Da _).mono ?_
                rintro e w' ⟨rfl, hb⟩
                obtain ⟨l9, d9, rfl⟩ := toExt hb
                clear hb
                (try go_wp2_with fail)
                refine hK.out _ _ ?_ (fun hHeld2 => ?_)
                · exact kg
                clear hK K hHeld
                have hHeld := hHeld2
                clear hHeld2
                try simp only [putA]
                refine wpAnyH_take (i := 7) (oi := _) (v := ?_) rfl (by kernel_rfl) (by kernel_rfl) (by kernel_rfl) (fun _ _ _ h => h) (Or.inl ⟨by rfl, ?_⟩) (by assumption) ?_
                rotate_left
                · (intro w hSw; (try dsimp only at hSw); go_simp; (try with_reducible rfl))
                try simp only [putA]
                refine wpAnyH_take (i := 8) (oi := _) (v := ?_) rfl (by kernel_rfl) (by kernel_rfl) (by kernel_rfl) (fun _ _ _ h => h) (Or.inl ⟨by rfl, ?_⟩) (by assumption) ?_
                rotate_left
                · (intro w hSw; (try dsimp only at hSw); go_simp; (try with_reducible rfl))
                try simp only [putA]
                refine wpAnyH_take (i := 9) (oi := _) (v := ?_) rfl (by kernel_rfl) (by kernel_rfl) (by kernel_rfl) (fun _ _ _ h => h) (Or.inl ⟨by rfl, ?_⟩) (by assumption) ?_
                rotate_left
                · (intro w hSw; (try dsimp only at hSw); go_simp; (try with_reducible rfl))
                try simp only [putA]
                refine wpAnyH_ready (rs := [11]) (by kernel_rfl) (by simp) ?_
                refine AllReadyH.cons (o := _) rfl (fun K hK => ?_) ?_
                · go_simp
                  refine hK.out _ _ ?_ (fun hHeld2 => ?_)
                  · exact kg
                  clear hK K hHeld
                  have hHeld := hHeld2
                  clear hHeld2
                  try simp only [putA]
                  refine wpAnyH_ready (rs := [12]) (by kernel_rfl) (by simp) ?_
                  refine AllReadyH.cons (o := _) rfl (fun K hK => ?_) ?_
                  · go_simp
                    refine hK.out _ _ ?_ (fun hHeld2 => ?_)
                    · exact kg
                    clear hK K hHeld
                    have hHeld := hHeld2
                    clear hHeld2
                    try simp only [putA]
                    refine wpAnyH_done (by kernel_rfl) ?_ _
                    (try go_wp2_with fail)
                    go_meet
                    exact ⟨_, rfl, rfl, kk, kk, by (first | omega | (simp [ext_size, World.setCell] <;> omega)), by (first | omega | (simp [ext_size, World.setCell] <;> omega)), kg⟩
                  exact AllReadyH.nil
                exact AllReadyH.nil
              exact AllReadyH.nil
            exact AllReadyH.nil
          refine AllReadyH.cons (o := _) rfl (fun K hK => ?_) ?_
          · go_simp
            refine hK.out _ _ ?_ (fun hHeld2 => ?_)
            · exact kg
            clear hK K hHeld
            have hHeld := hHeld2
            clear hHeld2
            try simp only [putA]
            refine wpAnyH_ready (rs := [5]) (by kernel_rfl) (by simp) ?_
            refine AllReadyH.cons (o := _) rfl (fun K hK => ?_) ?_
            · go_simp
              with_reducible refine (Ca _).mono ?_
              rintro e w' ⟨rfl, hb⟩
              obtain ⟨l9, d9, rfl⟩ := toExt hb
              clear hb
              (try go_wp2_with fail)
              refine hK.out _ _ ?_ (fun hHeld2 => ?_)
              · exact kg
              clear hK K hHeld
              have hHeld := hHeld2
              clear hHeld2
              try simp only [putA]
              refine wpAnyH_ready (rs := [6]) (by kernel_rfl) (by simp) ?_
              refine AllReadyH.cons (o := _) rfl (fun K hK => ?_) ?_
              · go_simp
                with_reducible refine (Da _).mono ?_
                rintro e w' ⟨rfl, hb⟩
                obtain ⟨l9, d9, rfl⟩ := toExt hb
                clear hb
                (try go_wp2_with fail)
                refine hK.out _ _ ?_ (fun hHeld2 => ?_)
                · exact kg
                clear hK K hHeld
                have hHeld := hHeld2
                clear hHeld2
                try simp only [putA]
                refine wpAnyH_take (i := 7) (oi := _) (v := ?_) rfl (by kernel_rfl) (by kernel_rfl) (by kernel_rfl) (fun _ _ _ h => h) (Or.inl ⟨by rfl, ?_⟩) (by assumption) ?_
                rotate_left
                · (intro w hSw; (try dsimp only at hSw); go_simp; (try with_reducible rfl))
                try simp only [putA]
                refine wpAnyH_take (i := 8) (oi := _) (v := ?_) rfl (by kernel_rfl) (by kernel_rfl) (by kernel_rfl) (fun _ _ _ h => h) (Or.inl ⟨by rfl, ?_⟩) (by assumption) ?_
                rotate_left
                · (intro w hSw; (try dsimp only at hSw); go_simp; (try with_reducible rfl))
                try simp only [putA]
                refine wpAnyH_take (i := 9) (oi := _) (v := ?_) rfl (by kernel_rfl) (by kernel_rfl) (by kernel_rfl) (fun _ _ _ h => h) (Or.inl ⟨by rfl, ?_⟩) (by assumption) ?_
                rotate_left
                · (intro w hSw; (try dsimp only at hSw); go_simp; (try with_reducible rfl))
                try simp only [putA]
                refine wpAnyH_ready (rs := [11]) (by kernel_rfl) (by simp) ?_
                refine AllReadyH.cons (o := _) rfl (fun K hK => ?_) ?_
                · go_simp
                  refine hK.out _ _ ?_ (fun hHeld2 => ?_)
                  · exact kg
                  clear hK K hHeld
                  have hHeld := hHeld2
                  clear hHeld2
                  try simp only [putA]
                  refine wpAnyH_ready (rs := [12]) (by kernel_rfl) (by simp) ?_
                  refine AllReadyH.cons (o := _) rfl (fun K hK => ?_) ?_
                  · go_simp
                    refine hK.out _ _ ?_ (fun hHeld2 => ?_)
                    · exact kg
                    clear hK K hHeld
                    have hHeld := hHeld2
                    clear hHeld2
                    try simp only [putA]
                    refine wpAnyH_done (by kernel_rfl) ?_ _
                    (try go_wp2_with fail)
                    go_meet
                    exact ⟨_, rfl, rfl, kk, kk, by (first | omega | (simp [ext_size, World.setCell] <;> omega)), by (first | omega | (simp [ext_size, World.setCell] <;> omega)), kg⟩
                  exact AllReadyH.nil
                exact AllReadyH.nil
              exact AllReadyH.nil
            exact AllReadyH.nil
          exact AllReadyH.nil
        refine AllReadyH.cons (o := _) rfl (fun K hK => ?_) ?_
        · go_simp
          refine hK.out _ _ ?_ (fun hHeld2 => ?_)
          · exact kg
          clear hK K hHeld
          have hHeld := hHeld2
          clear hHeld2
          try simp only [putA]
          refine wpAnyH_ready (rs := [2]) (by kernel_rfl) (by simp) ?_
          refine AllReadyH.cons (o := _) rfl (fun K hK => ?_) ?_
          · go_simp
            with_reducible refine (Ra _).mono ?_
            rintro e w' ⟨rfl, hb⟩
            obtain ⟨l9, d9, rfl⟩ := toExt hb
            clear hb
            (try go_wp2_with fail)
            refine hK.out _ _ ?_ (fun hHeld2 => ?_)
            · exact kg
            clear hK K hHeld
            have hHeld := hHeld2
            clear hHeld2
            try simp only [putA]
            refine wpAnyH_ready (rs := [5]) (by kernel_rfl) (by simp) ?_
            refine AllReadyH.cons (o := _) rfl (fun K hK => ?_) ?_
            · go_simp
              with_reducible refine (Ca _).mono ?_
              rintro e w' ⟨rfl, hb⟩
              obtain ⟨l9, d9, rfl⟩ := toExt hb
              clear hb
              (try go_wp2_with fail)
              refine hK.out _ _ ?_ (fun hHeld2 => ?_)
              · exact kg
              clear hK K hHeld
              have hHeld := hHeld2
              clear hHeld2
              try simp only [putA]
              refine wpAnyH_ready (rs := [6]) (by kernel_rfl) (by simp) ?_
              refine AllReadyH.cons (o := _) rfl (fun K hK => ?_) ?_
              · go_simp
                with_reducible refine (Da _).mono ?_
                rintro e w' ⟨rfl, hb⟩
                obtain ⟨l9, d9, rfl⟩ := toExt hb
                clear hb
                (try go_wp2_with fail)
                refine hK.out _ _ ?_ (fun hHeld2 => ?_)
                · exact kg
                clear hK K hHeld
                have hHeld := hHeld2
                clear hHeld2
                try simp only [putA]
                refine wpAnyH_take (i := 7) (oi := _) (v := ?_) rfl (by kernel_rfl) (by kernel_rfl) (by kernel_rfl) (fun _ _ _ h => h) (Or.inl ⟨by rfl, ?_⟩) (by assumption) ?_
                rotate_left
                · (intro w hSw; (try dsimp only at hSw); go_simp; (try with_reducible rfl))
                try simp only [putA]
                refine wpAnyH_take (i := 8) (oi := _) (v := ?_) rfl (by kernel_rfl) (by kernel_rfl) (by kernel_rfl) (fun _ _ _ h => h) (Or.inl ⟨by rfl, ?_⟩) (by assumption) ?_
                rotate_left
                · (intro w hSw; (try dsimp only at hSw); go_simp; (try with_reducible rfl))
                try simp only [putA]
                refine wpAnyH_take (i := 9) (oi := _) (v := ?_) rfl (by kernel_rfl) (by kernel_rfl) (by kernel_rfl) (fun _ _ _ h => h) (Or.inl ⟨by rfl, ?_⟩) (by assumption) ?_
                rotate_left
                · (intro w hSw; (try dsimp only at hSw); go_simp; (try with_reducible rfl))
                try simp only [putA]
                refine wpAnyH_ready (rs := [11]) (by kernel_rfl) (by simp) ?_
                refine AllReadyH.cons (o := _) rfl (fun K hK => ?_) ?_
                · go_simp
                  refine hK.out _ _ ?_ (fun hHeld2 => ?_)
                  · exact kg
                  clear hK K hHeld
                  have hHeld := hHeld2
                  clear hHeld2
                  try simp only [putA]
                  refine wpAnyH_ready (rs := [12]) (by kernel_rfl) (by simp) ?_
                  refine AllReadyH.cons (o := _) rfl (fun K hK => ?_) ?_
                  · go_simp
                    refine hK.out _ _ ?_ (fun hHeld2 => ?_)
                    · exact kg
                    clear hK K hHeld
                    have hHeld := hHeld2
                    clear hHeld2
                    try simp only [putA]
                    refine wpAnyH_done (by kernel_rfl) ?_ _
                    (try go_wp2_with fail)
                    go_meet
                    exact ⟨_, rfl, rfl, kk, kk, by (first | omega | (simp [ext_size, World.setCell] <;> omega)), by (first | omega | (simp [ext_size, World.setCell] <;> omega)), kg⟩
                  exact AllReadyH.nil
                exact AllReadyH.nil
              exact AllReadyH.nil
            exact AllReadyH.nil
          exact AllReadyH.nil
        exact AllReadyH.nil
      case rest =>
      obtain ⟨q, rfl, rfl, a0, a1, yq, zq, hb⟩ := hcut
      replace cI := cs_below cI hb (by omega)
      replace fI := fs_below fI hb (by omega)
      replace hbI := hbI.trans (hb.mono (by omega))
      have hs := hb.size
      clear hb Da Ra Ca hM hN
      by_cases he : e0 = 0
      · have hE := Lib.hid he
        have he1 : (e0 == 0) = true := by simp [he]
        clear he
        rcases (show (i = 0 ∧ k = 0) ∨ (i = 0 ∧ k = 1) ∨ (i = 0 ∧ k = 2) ∨ (i = 1 ∧ k = 0) ∨ (i = 1 ∧ k = 1) ∨ (i = 1 ∧ k = 2) ∨ (i = 2 ∧ k = 0) ∨ (i = 2 ∧ k = 1) ∨ (i = 2 ∧ k = 2) by omega) with ⟨rfl, rfl⟩ | ⟨rfl, rfl⟩ | ⟨rfl, rfl⟩ | ⟨rfl, rfl⟩ | ⟨rfl, rfl⟩ | ⟨rfl, rfl⟩ | ⟨rfl, rfl⟩ | ⟨rfl, rfl⟩ | ⟨rfl, rfl⟩
        · obtain rfl : z = 0 := by have := HZ.out; omega
          obtain rfl : y = 0 := by have := HY.out; omega
          clear HZ HY zi zi0 zk zk0 hi3 hk4 hk3 hi4
          have c0 : ∀ o, o < 18 → wc.cell? ⟨g, o, none⟩ = some (.int .i64 (prN P 0 0 o)) := cI
          have f0 : ∀ o, o < 18 → wc.frozen? ⟨g, o, none⟩ = false := fI
          go_wp2_with fail
          go_region_held3 (fun w' => w'.cell? ⟨q, 0, none⟩ = some (.int .i64 p0) ∧ w'.cell? ⟨q, 1, none⟩ = some (.int .i64 p1)) (simp (maxDischargeDepth := 8) [go_sem, kp, *]) (fail)
          all_goals go_wp2
          all_goals go_roundg (3 - (0 + 1))
          all_goals first
            | omega
            | exact ⟨0 + 1, 0 + 1, rfl, rfl, rfl, by omega, feI_next (n := 0) hFo.out (by rw [show E 0 = e0 from He0.out, hE.out]), cs_eq (N := up (up (prN P 0 0) 0 p0) (0 + 1) p1) (kc) (by rw [← Hp0.out, ← Hp1.out]; apply cases18 <;> rfl), kf, kg, by (first | omega | (simp [ext_size, World.setCell] <;> omega))⟩
        · obtain rfl : z = 0 := by have := HZ.out; omega
          obtain rfl : y = 1 := by have := HY.out; omega
          clear HZ HY zi zi0 zk zk0 hi3 hk4 hk3 hi4
          have c0 : ∀ o, o < 18 → wc.cell? ⟨g, o, none⟩ = some (.int .i64 (prN P 0 1 o)) := cI
          have f0 : ∀ o, o < 18 → wc.frozen? ⟨g, o, none⟩ = false := fI
          go_wp2_with fail
          go_region_held3 (fun w' => w'.cell? ⟨q, 0, none⟩ = some (.int .i64 p0) ∧ w'.cell? ⟨q, 1, none⟩ = some (.int .i64 p1)) (simp (maxDischargeDepth := 8) [go_sem, kp, *]) (fail)
          all_goals go_wp2
          all_goals go_roundg (3 - (1 + 1))
          all_goals first
            | omega
            | exact ⟨1 + 1, 1 + 1, rfl, rfl, rfl, by omega, feI_next (n := 1) hFo.out (by rw [show E 1 = e0 from He0.out, hE.out]), cs_eq (N := up (up (prN P 0 1) 2 p0) (2 + 1) p1) (kc) (by rw [← Hp0.out, ← Hp1.out]; apply cases18 <;> rfl), kf, kg, by (first | omega | (simp [ext_size, World.setCell] <;> omega))⟩
        · obtain rfl : z = 0 := by have := HZ.out; omega
          obtain rfl : y = 2 := by have := HY.out; omega
          clear HZ HY zi zi0 zk zk0 hi3 hk4 hk3 hi4
          have c0 : ∀ o, o < 18 → wc.cell? ⟨g, o, none⟩ = some (.int .i64 (prN P 0 2 o)) := cI
          have f0 : ∀ o, o < 18 → wc.frozen? ⟨g, o, none⟩ = false := fI
          go_wp2_with fail
          go_region_held3 (fun w' => w'.cell? ⟨q, 0, none⟩ = some (.int .i64 p0) ∧ w'.cell? ⟨q, 1, none⟩ = some (.int .i64 p1)) (simp (maxDischargeDepth := 8) [go_sem, kp, *]) (fail)
          all_goals go_wp2
          all_goals go_roundg (3 - (2 + 1))
          all_goals first
            | omega
            | exact ⟨2 + 1, 2 + 1, rfl, rfl, rfl, by omega, feI_next (n := 2) hFo.out (by rw [show E 2 = e0 from He0.out, hE.out]), cs_eq (N := up (up (prN P 0 2) 4 p0) (4 + 1) p1) (kc) (by rw [← Hp0.out, ← Hp1.out]; apply cases18 <;> rfl), kf, kg, by (first | omega | (simp [ext_size, World.setCell] <;> omega))⟩
        · obtain rfl : z = 1 := by have := HZ.out; omega
          obtain rfl : y = 0 := by have := HY.out; omega
          clear HZ HY zi zi0 zk zk0 hi3 hk4 hk3 hi4
          have c0 : ∀ o, o < 18 → wc.cell? ⟨g, o, none⟩ = some (.int .i64 (prN P 1 0 o)) := cI
          have f0 : ∀ o, o < 18 → wc.frozen? ⟨g, o, none⟩ = false := fI
          go_wp2_with fail
          go_region_held3 (fun w' => w'.cell? ⟨q, 0, none⟩ = some (.int .i64 p0) ∧ w'.cell? ⟨q, 1, none⟩ = some (.int .i64 p1)) (simp (maxDischargeDepth := 8) [go_sem, kp, *]) (fail)
          all_goals go_wp2
          all_goals go_roundg (3 - (0 + 1))
          all_goals first
            | omega
            | exact ⟨0 + 1, 0 + 1, rfl, rfl, rfl, by omega, feI_next (n := 3) hFo.out (by rw [show E 3 = e0 from He0.out, hE.out]), cs_eq (N := up (up (prN P 1 0) 6 p0) (6 + 1) p1) (kc) (by rw [← Hp0.out, ← Hp1.out]; apply cases18 <;> rfl), kf, kg, by (first | omega | (simp [ext_size, World.setCell] <;> omega))⟩
        · obtain rfl : z = 1 := by have := HZ.out; omega
          obtain rfl : y = 1 := by have := HY.out; omega
          clear HZ HY zi zi0 zk zk0 hi3 hk4 hk3 hi4
          have c0 : ∀ o, o < 18 → wc.cell? ⟨g, o, none⟩ = some (.int .i64 (prN P 1 1 o)) := cI
          have f0 : ∀ o, o < 18 → wc.frozen? ⟨g, o, none⟩ = false := fI
          go_wp2_with fail
          go_region_held3 (fun w' => w'.cell? ⟨q, 0, none⟩ = some (.int .i64 p0) ∧ w'.cell? ⟨q, 1, none⟩ = some (.int .i64 p1)) (simp (maxDischargeDepth := 8) [go_sem, kp, *]) (fail)
          all_goals go_wp2
          all_goals go_roundg (3 - (1 + 1))
          all_goals first
            | omega
            | exact ⟨1 + 1, 1 + 1, rfl, rfl, rfl, by omega, feI_next (n := 4) hFo.out (by rw [show E 4 = e0 from He0.out, hE.out]), cs_eq (N := up (up (prN P 1 1) 8 p0) (8 + 1) p1) (kc) (by rw [← Hp0.out, ← Hp1.out]; apply cases18 <;> rfl), kf, kg, by (first | omega | (simp [ext_size, World.setCell] <;> omega))⟩
        · obtain rfl : z = 1 := by have := HZ.out; omega
          obtain rfl : y = 2 := by have := HY.out; omega
          clear HZ HY zi zi0 zk zk0 hi3 hk4 hk3 hi4
          have c0 : ∀ o, o < 18 → wc.cell? ⟨g, o, none⟩ = some (.int .i64 (prN P 1 2 o)) := cI
          have f0 : ∀ o, o < 18 → wc.frozen? ⟨g, o, none⟩ = false := fI
          go_wp2_with fail
          go_region_held3 (fun w' => w'.cell? ⟨q, 0, none⟩ = some (.int .i64 p0) ∧ w'.cell? ⟨q, 1, none⟩ = some (.int .i64 p1)) (simp (maxDischargeDepth := 8) [go_sem, kp, *]) (fail)
          all_goals go_wp2
          all_goals go_roundg (3 - (2 + 1))
          all_goals first
            | omega
            | exact ⟨2 + 1, 2 + 1, rfl, rfl, rfl, by omega, feI_next (n := 5) hFo.out (by rw [show E 5 = e0 from He0.out, hE.out]), cs_eq (N := up (up (prN P 1 2) 10 p0) (10 + 1) p1) (kc) (by rw [← Hp0.out, ← Hp1.out]; apply cases18 <;> rfl), kf, kg, by (first | omega | (simp [ext_size, World.setCell] <;> omega))⟩
        · obtain rfl : z = 2 := by have := HZ.out; omega
          obtain rfl : y = 0 := by have := HY.out; omega
          clear HZ HY zi zi0 zk zk0 hi3 hk4 hk3 hi4
          have c0 : ∀ o, o < 18 → wc.cell? ⟨g, o, none⟩ = some (.int .i64 (prN P 2 0 o)) := cI
          have f0 : ∀ o, o < 18 → wc.frozen? ⟨g, o, none⟩ = false := fI
          go_wp2_with fail
          go_region_held3 (fun w' => w'.cell? ⟨q, 0, none⟩ = some (.int .i64 p0) ∧ w'.cell? ⟨q, 1, none⟩ = some (.int .i64 p1)) (simp (maxDischargeDepth := 8) [go_sem, kp, *]) (fail)
          all_goals go_wp2
          all_goals go_roundg (3 - (0 + 1))
          all_goals first
            | omega
            | exact ⟨0 + 1, 0 + 1, rfl, rfl, rfl, by omega, feI_next (n := 6) hFo.out (by rw [show E 6 = e0 from He0.out, hE.out]), cs_eq (N := up (up (prN P 2 0) 12 p0) (12 + 1) p1) (kc) (by rw [← Hp0.out, ← Hp1.out]; apply cases18 <;> rfl), kf, kg, by (first | omega | (simp [ext_size, World.setCell] <;> omega))⟩
        · obtain rfl : z = 2 := by have := HZ.out; omega
          obtain rfl : y = 1 := by have := HY.out; omega
          clear HZ HY zi zi0 zk zk0 hi3 hk4 hk3 hi4
          have c0 : ∀ o, o < 18 → wc.cell? ⟨g, o, none⟩ = some (.int .i64 (prN P 2 1 o)) := cI
          have f0 : ∀ o, o < 18 → wc.frozen? ⟨g, o, none⟩ = false := fI
          go_wp2_with fail
          go_region_held3 (fun w' => w'.cell? ⟨q, 0, none⟩ = some (.int .i64 p0) ∧ w'.cell? ⟨q, 1, none⟩ = some (.int .i64 p1)) (simp (maxDischargeDepth := 8) [go_sem, kp, *]) (fail)
          all_goals go_wp2
          all_goals go_roundg (3 - (1 + 1))
          all_goals first
            | omega
            | exact ⟨1 + 1, 1 + 1, rfl, rfl, rfl, by omega, feI_next (n := 7) hFo.out (by rw [show E 7 = e0 from He0.out, hE.out]), cs_eq (N := up (up (prN P 2 1) 14 p0) (14 + 1) p1) (kc) (by rw [← Hp0.out, ← Hp1.out]; apply cases18 <;> rfl), kf, kg, by (first | omega | (simp [ext_size, World.setCell] <;> omega))⟩
        · obtain rfl : z = 2 := by have := HZ.out; omega
          obtain rfl : y = 2 := by have := HY.out; omega
          clear HZ HY zi zi0 zk zk0 hi3 hk4 hk3 hi4
          have c0 : ∀ o, o < 18 → wc.cell? ⟨g, o, none⟩ = some (.int .i64 (prN P 2 2 o)) := cI
          have f0 : ∀ o, o < 18 → wc.frozen? ⟨g, o, none⟩ = false := fI
          go_wp2_with fail
          go_region_held3 (fun w' => w'.cell? ⟨q, 0, none⟩ = some (.int .i64 p0) ∧ w'.cell? ⟨q, 1, none⟩ = some (.int .i64 p1)) (simp (maxDischargeDepth := 8) [go_sem, kp, *]) (fail)
          all_goals go_wp2
          all_goals go_roundg (3 - (2 + 1))
          all_goals first
            | omega
            | exact ⟨2 + 1, 2 + 1, rfl, rfl, rfl, by omega, feI_next (n := 8) hFo.out (by rw [show E 8 = e0 from He0.out, hE.out]), cs_eq (N := up (up (prN P 2 2) 16 p0) (16 + 1) p1) (kc) (by rw [← Hp0.out, ← Hp1.out]; apply cases18 <;> rfl), kf, kg, by (first | omega | (simp [ext_size, World.setCell] <;> omega))⟩
      · have hE := Lib.hid he
        have he1 : (e0 == 0) = false := by simp [he]
        clear he
        replace cR := cs_below cR hbI (by omega)
        replace fR := fs_below fR hbI (by omega)
        replace HBa := HBa.trans (hbI.mono (by omega))
        clear cI fI hbI a0 a1
        go_upto_region 12 with fail
        go_step
        refine wpList_plain rfl (fun K hK => ?_)
        go_big_op
        refine hK _ _ ?_
        clear hK K
        refine wpList_plain rfl (fun K hK => ?_)
        go_big_op
        refine hK _ _ ?_
        clear hK K
        refine store18 (.tmp 4) (.tmp 41) (w.heap.size + 1 + 1) (fun _ => 0) (fun _ => 0) cR fR rfl rfl rfl rfl ?_
        intro wx cX fX sX bX
        have HBx := bX w.heap.size w (by omega) HBa
        clear cR fR HBa bX fX sX
        go_wp2
        refine bodyPost_ret (res_mat2 (v := .int .i64 e0) Try.results24 rfl rfl cX) rfl ?_
        have hE3 : E (i * 3 + k) = e0 := by rw [show i * 3 + k = 3 * i + k by omega]; exact He0.out
        have e9 : feI E 9 = e0 := by
          have := feI_stop (E := E) (n := i * 3 + k) hFo.out (by rw [hE3]; exact hE.out) (8 - (i * 3 + k))
          rw [show i * 3 + k + 1 + (8 - (i * 3 + k)) = 9 by omega, hE3] at this
          exact this
        exact ⟨by rw [e9, show prR E P = fun _ => 0 from funext (fun o => by rw [prR, e9, vzn hE.out])], HBx⟩
end Go.Proofs.Ytlijkebdaalldaa
namespace Go.Proofs.Ytlijkebdaalldaa
open Go.RowKit
set_option linter.unusedVariables false
set_option linter.unusedSimpArgs false


set_option maxRecDepth 100000 in
set_option maxHeartbeats 3200000 in
theorem ref2_Same (w : World) (W0 : ∀ w : World, Calls Try.prog 8 #[.int .i64 0] w fun x w' => x = .returned (.agg #[.int .i64 0, .int .i64 1]) ∧ Below w.heap.size w w') (W1 : ∀ w : World, Calls Try.prog 8 #[.int .i64 1] w fun x w' => x = .returned (.agg #[.int .i64 1, .int .i64 1]) ∧ Below w.heap.size w w') :
    Calls Try.prog 12 #[] w fun x w' => x = .returned (.agg #[.int .i64 (unP 0), .int .i64 (unP 1), .int .i64 (unP 2), .int .i64 (unP 3), .int .i64 (unP 4), .int .i64 (unP 5), .int .i64 (unP 6), .int .i64 (unP 7), .int .i64 (unP 8), .int .i64 (unP 9), .int .i64 (unP 10), .int .i64 (unP 11), .int .i64 (unP 12), .int .i64 (unP 13), .int .i64 (unP 14), .int .i64 (unP 15), .int .i64 (unP 16), .int .i64 (unP 17)]) ∧ Below w.heap.size w w' := by
  have xR := xRul
  have dz1 := dzA
  have dz2 := dzB
  go_enter Try.func12, Try.ntmps12
  go_upto_region 1 with fail
  go_step
  refine wpList_plain rfl (fun K hK => ?_)
  go_big_op
  refine hK _ _ ?_
  clear hK K
  refine wpList_plain rfl (fun K hK => ?_)
  go_big_op
  refine hK _ _ ?_
  clear hK K
  refine opq (fun wx => Cs wx (w.heap.size + 1) 18 (unN 0 0) ∧ Fs wx (w.heap.size + 1) 18 ∧ Cs wx w.heap.size 18 (fun _ => 0) ∧ Fs wx w.heap.size 18 ∧ w.heap.size + 1 < wx.heap.size ∧ Below w.heap.size w wx) ?_ ?_
  · exact ⟨cs_eq (cs_new (by simp) arr0) (by apply cases18 <;> rfl), fs_new (by simp), cs_alloc _ (cs_new rfl arr0) (by simp), fs_alloc _ (fs_new rfl) (by simp), by simp, kb⟩
  rintro w0 ⟨cN, fN, cR, fR, zs, HBa⟩
  refine store18 (.tmp 1) (.tmp 4) (w.heap.size + 1) (fun _ => 0) (unN 0 0) cN fN rfl rfl rfl rfl ?_
  intro wa cX fX sX bX
  have HB0 := bX (w.heap.size + 1) w0 (by omega) (Below.refl _ _)
  replace cR := cs_below cR HB0 (by omega)
  replace fR := fs_below fR HB0 (by omega)
  replace HBa := HBa.trans (HB0.mono (by omega))
  replace zs : w.heap.size + 1 < wa.heap.size := by omega
  replace cN : Cs wa (w.heap.size + 1) 18 (unN 0 0) := cs_eq cX (by apply cases18 <;> rfl)
  replace fN := fX
  clear cX fX sX bX HB0
  go_wp2_with fail
  go_loopg [2] 3 (fun kk s9 wr => ∃ (i : Nat) (z : Int), kk = 3 - i ∧ s9 = .int .i64 z ∧ z = i ∧ i ≤ 3 ∧ Cs wr (w.heap.size + 1) 18 (unN i 0) ∧ Fs wr (w.heap.size + 1) 18 ∧ Below (w.heap.size + 1) wa wr ∧ wa.heap.size ≤ wr.heap.size)
  case atStart => exact ⟨0, 0, rfl, rfl, rfl, by omega, cN, fN, Below.refl _ _, Nat.le_refl _⟩
  clear cN fN
  obtain ⟨i, z, rfl, rfl, hz, hi, cI, fI, hbI, hzI⟩ := hrel
  rcases (show i = 3 ∨ i = 0 ∨ i = 1 ∨ i = 2 by omega) with rfl | rfl | rfl | rfl
  · obtain rfl : z = 3 := hz
    have cF : Cs wr (w.heap.size + 1) 18 unP := cs_eq cI (by apply cases18 <;> rfl)
    replace cR := cs_below cR hbI (by omega)
    replace fR := fs_below fR hbI (by omega)
    replace HBa := HBa.trans (hbI.mono (by omega))
    clear cI fI hbI
    go_upto_region 10 with fail
    go_step
    refine load18 (.tmp 1) _ unP cF rfl rfl rfl ?_
    clear cF
    refine store18 (.tmp 0) (.tmp 23) w.heap.size unP (fun _ => 0) cR fR rfl rfl rfl rfl ?_
    intro wx cX fX sX bX
    have HBx := bX w.heap.size w (by omega) HBa
    clear cR fR HBa bX fX sX
    go_wp2
    refine bodyPost_ret (res_mat Try.results12 rfl cX) rfl ?_
    exact ⟨rfl, HBx⟩
  · obtain rfl : z = 0 := hz
    go_wp2_with fail
    go_loopg [3] 3 (fun kk s14 wv => ∃ (k : Nat) (y : Int), kk = 3 - k ∧ s14 = .int .i64 y ∧ y = k ∧ k ≤ 3 ∧ Cs wv (w.heap.size + 1) 18 (unN 0 k) ∧ Fs wv (w.heap.size + 1) 18 ∧ Below (w.heap.size + 1) wa wv ∧ wa.heap.size ≤ wv.heap.size)
    case atStart => exact ⟨0, 0, rfl, rfl, rfl, by omega, kc, kf, kg, by (first | omega | (simp [ext_size, World.setCell] <;> omega))⟩
    clear cI fI hbI hzI
    obtain ⟨k, y, rfl, rfl, hy, hk, cI, fI, hbI, hzI⟩ := hrel
    have c0 : ∀ o, o < 18 → wr.cell? ⟨(w.heap.size + 1), o, none⟩ = some (.int .i64 (unN 0 k o)) := cI
    have f0 : ∀ o, o < 18 → wr.frozen? ⟨(w.heap.size + 1), o, none⟩ = false := fI
    have zv : (w.heap.size + 1) < wr.heap.size := by omega
    rcases (show k = 3 ∨ k = 0 ∨ k = 1 ∨ k = 2 by omega) with rfl | rfl | rfl | rfl
    · obtain rfl : y = 3 := hy
      go_wp2_with fail
      go_region_held3 (fun _ => True) (trivial) ((go_at_call 8; with_reducible refine (W1 _).mono ?_; rintro e w' ⟨rfl, hb⟩; obtain ⟨l9, d9, rfl⟩ := toExt hb; clear hb))
      all_goals go_wp2
      all_goals go_roundg (3 - (0 + 1))
      all_goals first
        | omega
        | exact ⟨0 + 1, 0 + 1, rfl, rfl, rfl, by omega, cs_eq (N := up (up (unN 0 3) 0 1) (0 + 1) 1) (kc) (by apply cases18 <;> rfl), kf, kg, by (first | omega | (simp [ext_size, World.setCell] <;> omega))⟩
    · obtain rfl : y = 0 := hy
      go_wp2_with fail
      go_region_held3 (fun _ => True) (trivial) ((go_at_call 8; with_reducible refine (W0 _).mono ?_; rintro e w' ⟨rfl, hb⟩; obtain ⟨l9, d9, rfl⟩ := toExt hb; clear hb))
      all_goals go_wp2
      all_goals go_roundg (3 - (0 + 1))
      all_goals first
        | omega
        | exact ⟨0 + 1, 0 + 1, rfl, rfl, rfl, by omega, cs_eq (N := up (up (unN 0 0) 0 0) (0 + 1) 1) (kc) (by apply cases18 <;> rfl), kf, kg, by (first | omega | (simp [ext_size, World.setCell] <;> omega))⟩
    · obtain rfl : y = 1 := hy
      go_wp2_with fail
      go_region_held3 (fun _ => True) (trivial) ((go_at_call 8; with_reducible refine (W0 _).mono ?_; rintro e w' ⟨rfl, hb⟩; obtain ⟨l9, d9, rfl⟩ := toExt hb; clear hb))
      all_goals go_wp2
      all_goals go_roundg (3 - (1 + 1))
      all_goals first
        | omega
        | exact ⟨1 + 1, 1 + 1, rfl, rfl, rfl, by omega, cs_eq (N := up (up (unN 0 1) 2 0) (2 + 1) 1) (kc) (by apply cases18 <;> rfl), kf, kg, by (first | omega | (simp [ext_size, World.setCell] <;> omega))⟩
    · obtain rfl : y = 2 := hy
      go_wp2_with fail
      go_region_held3 (fun _ => True) (trivial) ((go_at_call 8; with_reducible refine (W0 _).mono ?_; rintro e w' ⟨rfl, hb⟩; obtain ⟨l9, d9, rfl⟩ := toExt hb; clear hb))
      all_goals go_wp2
      all_goals go_roundg (3 - (2 + 1))
      all_goals first
        | omega
        | exact ⟨2 + 1, 2 + 1, rfl, rfl, rfl, by omega, cs_eq (N := up (up (unN 0 2) 4 0) (4 + 1) 1) (kc) (by apply cases18 <;> rfl), kf, kg, by (first | omega | (simp [ext_size, World.setCell] <;> omega))⟩
  · obtain rfl : z = 1 := hz
    go_wp2_with fail
    go_loopg [3] 3 (fun kk s14 wv => ∃ (k : Nat) (y : Int), kk = 3 - k ∧ s14 = .int .i64 y ∧ y = k ∧ k ≤ 3 ∧ Cs wv (w.heap.size + 1) 18 (unN 1 k) ∧ Fs wv (w.heap.size + 1) 18 ∧ Below (w.heap.size + 1) wa wv ∧ wa.heap.size ≤ wv.heap.size)
    case atStart => exact ⟨0, 0, rfl, rfl, rfl, by omega, kc, kf, kg, by (first | omega | (simp [ext_size, World.setCell] <;> omega))⟩
    clear cI fI hbI hzI
    obtain ⟨k, y, rfl, rfl, hy, hk, cI, fI, hbI, hzI⟩ := hrel
    have c0 : ∀ o, o < 18 → wr.cell? ⟨(w.heap.size + 1), o, none⟩ = some (.int .i64 (unN 1 k o)) := cI
    have f0 : ∀ o, o < 18 → wr.frozen? ⟨(w.heap.size + 1), o, none⟩ = false := fI
    have zv : (w.heap.size + 1) < wr.heap.size := by omega
    rcases (show k = 3 ∨ k = 0 ∨ k = 1 ∨ k = 2 by omega) with rfl | rfl | rfl | rfl
    · obtain rfl : y = 3 := hy
      go_wp2_with fail
      go_region_held3 (fun _ => True) (trivial) ((go_at_call 8; with_reducible refine (W1 _).mono ?_; rintro e w' ⟨rfl, hb⟩; obtain ⟨l9, d9, rfl⟩ := toExt hb; clear hb))
      all_goals go_wp2
      all_goals go_roundg (3 - (1 + 1))
      all_goals first
        | omega
        | exact ⟨1 + 1, 1 + 1, rfl, rfl, rfl, by omega, cs_eq (N := up (up (unN 1 3) 8 1) (8 + 1) 1) (kc) (by apply cases18 <;> rfl), kf, kg, by (first | omega | (simp [ext_size, World.setCell] <;> omega))⟩
    · obtain rfl : y = 0 := hy
      go_wp2_with fail
      go_region_held3 (fun _ => True) (trivial) ((go_at_call 8; with_reducible refine (W0 _).mono ?_; rintro e w' ⟨rfl, hb⟩; obtain ⟨l9, d9, rfl⟩ := toExt hb; clear hb))
      all_goals go_wp2
      all_goals go_roundg (3 - (0 + 1))
      all_goals first
        | omega
        | exact ⟨0 + 1, 0 + 1, rfl, rfl, rfl, by omega, cs_eq (N := up (up (unN 1 0) 6 0) (6 + 1) 1) (kc) (by apply cases18 <;> rfl), kf, kg, by (first | omega | (simp [ext_size, World.setCell] <;> omega))⟩
    · obtain rfl : y = 1 := hy
      go_wp2_with fail
      go_region_held3 (fun _ => True) (trivial) ((go_at_call 8; with_reducible refine (W0 _).mono ?_; rintro e w' ⟨rfl, hb⟩; obtain ⟨l9, d9, rfl⟩ := toExt hb; clear hb))
      all_goals go_wp2
      all_goals go_roundg (3 - (1 + 1))
      all_goals first
        | omega
        | exact ⟨1 + 1, 1 + 1, rfl, rfl, rfl, by omega, cs_eq (N := up (up (unN 1 1) 8 0) (8 + 1) 1) (kc) (by apply cases18 <;> rfl), kf, kg, by (first | omega | (simp [ext_size, World.setCell] <;> omega))⟩
    · obtain rfl : y = 2 := hy
      go_wp2_with fail
      go_region_held3 (fun _ => True) (trivial) ((go_at_call 8; with_reducible refine (W0 _).mono ?_; rintro e w' ⟨rfl, hb⟩; obtain ⟨l9, d9, rfl⟩ := toExt hb; clear hb))
      all_goals go_wp2
      all_goals go_roundg (3 - (2 + 1))
      all_goals first
        | omega
        | exact ⟨2 + 1, 2 + 1, rfl, rfl, rfl, by omega, cs_eq (N := up (up (unN 1 2) 10 0) (10 + 1) 1) (kc) (by apply cases18 <;> rfl), kf, kg, by (first | omega | (simp [ext_size, World.setCell] <;> omega))⟩
  · obtain rfl : z = 2 := hz
    go_wp2_with fail
    go_loopg [3] 3 (fun kk s14 wv => ∃ (k : Nat) (y : Int), kk = 3 - k ∧ s14 = .int .i64 y ∧ y = k ∧ k ≤ 3 ∧ Cs wv (w.heap.size + 1) 18 (unN 2 k) ∧ Fs wv (w.heap.size + 1) 18 ∧ Below (w.heap.size + 1) wa wv ∧ wa.heap.size ≤ wv.heap.size)
    case atStart => exact ⟨0, 0, rfl, rfl, rfl, by omega, kc, kf, kg, by (first | omega | (simp [ext_size, World.setCell] <;> omega))⟩
    clear cI fI hbI hzI
    obtain ⟨k, y, rfl, rfl, hy, hk, cI, fI, hbI, hzI⟩ := hrel
    have c0 : ∀ o, o < 18 → wr.cell? ⟨(w.heap.size + 1), o, none⟩ = some (.int .i64 (unN 2 k o)) := cI
    have f0 : ∀ o, o < 18 → wr.frozen? ⟨(w.heap.size + 1), o, none⟩ = false := fI
    have zv : (w.heap.size + 1) < wr.heap.size := by omega
    rcases (show k = 3 ∨ k = 0 ∨ k = 1 ∨ k = 2 by omega) with rfl | rfl | rfl | rfl
    · obtain rfl : y = 3 := hy
      go_wp2_with fail
      go_region_held3 (fun _ => True) (trivial) ((go_at_call 8; with_reducible refine (W1 _).mono ?_; rintro e w' ⟨rfl, hb⟩; obtain ⟨l9, d9, rfl⟩ := toExt hb; clear hb))
      all_goals go_wp2
      all_goals go_roundg (3 - (2 + 1))
      all_goals first
        | omega
        | exact ⟨2 + 1, 2 + 1, rfl, rfl, rfl, by omega, cs_eq (N := up (up (unN 2 3) 16 1) (16 + 1) 1) (kc) (by apply cases18 <;> rfl), kf, kg, by (first | omega | (simp [ext_size, World.setCell] <;> omega))⟩
    · obtain rfl : y = 0 := hy
      go_wp2_with fail
      go_region_held3 (fun _ => True) (trivial) ((go_at_call 8; with_reducible refine (W0 _).mono ?_; rintro e w' ⟨rfl, hb⟩; obtain ⟨l9, d9, rfl⟩ := toExt hb; clear hb))
      all_goals go_wp2
      all_goals go_roundg (3 - (0 + 1))
      all_goals first
        | omega
        | exact ⟨0 + 1, 0 + 1, rfl, rfl, rfl, by omega, cs_eq (N := up (up (unN 2 0) 12 0) (12 + 1) 1) (kc) (by apply cases18 <;> rfl), kf, kg, by (first | omega | (simp [ext_size, World.setCell] <;> omega))⟩
    · obtain rfl : y = 1 := hy
      go_wp2_with fail
      go_region_held3 (fun _ => True) (trivial) ((go_at_call 8; with_reducible refine (W0 _).mono ?_; rintro e w' ⟨rfl, hb⟩; obtain ⟨l9, d9, rfl⟩ := toExt hb; clear hb))
      all_goals go_wp2
      all_goals go_roundg (3 - (1 + 1))
      all_goals first
        | omega
        | exact ⟨1 + 1, 1 + 1, rfl, rfl, rfl, by omega, cs_eq (N := up (up (unN 2 1) 14 0) (14 + 1) 1) (kc) (by apply cases18 <;> rfl), kf, kg, by (first | omega | (simp [ext_size, World.setCell] <;> omega))⟩
    · obtain rfl : y = 2 := hy
      go_wp2_with fail
      go_region_held3 (fun _ => True) (trivial) ((go_at_call 8; with_reducible refine (W0 _).mono ?_; rintro e w' ⟨rfl, hb⟩; obtain ⟨l9, d9, rfl⟩ := toExt hb; clear hb))
      all_goals go_wp2
      all_goals go_roundg (3 - (2 + 1))
      all_goals first
        | omega
        | exact ⟨2 + 1, 2 + 1, rfl, rfl, rfl, by omega, cs_eq (N := up (up (unN 2 2) 16 0) (16 + 1) 1) (kc) (by apply cases18 <;> rfl), kf, kg, by (first | omega | (simp [ext_size, World.setCell] <;> omega))⟩

end Go.Proofs.Ytlijkebdaalldaa
