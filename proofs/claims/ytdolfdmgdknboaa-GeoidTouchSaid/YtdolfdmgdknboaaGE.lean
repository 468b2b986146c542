/-
  The values of places and of normals.  Package geoid: what places, normals and sides are, for valid globes.  The law on normals, for all globes and parameters.  The examples of the chapter on geoid hold.
-/
import Derived.Test.YtdolfdmgdknboaaMX
import Derived.Test.YtdolfdmgdknboaaGca
import Derived.Test.YtdolfdmgdknboaaGpl
import Derived.Test.YtdolfdmgdknboaaFxk
import Derived.Test.YtdolfdmgdknboaaFxq
import Derived.Test.YtdolfdmgdknboaaGA
import Derived.Test.YtdolfdmgdknboaaGB
import Derived.Test.YtdolfdmgdknboaaWk3
import Derived.Test.YtdolfdmgdknboaaMD
import Derived.Test.YtdolfdmgdknboaaVw
import Derived.Test.YtdolfdmgdknboaaFs
import Derived.Test.YtdolfdmgdknboaaFl2
import Derived.Test.YtdolfdmgdknboaaFxc
import Derived.Test.YtdolfdmgdknboaaGal
import Derived.Test.YtdolfdmgdknboaaGnw
import Derived.Test.YtdolfdmgdknboaaFxp
import Derived.Test.YtdolfdmgdknboaaFx
namespace Go.Proofs.Ytdolfdmgdknboaa
open Go.RowKit
set_option linter.unusedVariables false
set_option linter.unusedSimpArgs false

theorem ma_mk {N D : Int} (h : 0 < D) : maN N D = mkN N D ∧ maD N D = mkD N D ∧ maE N D = mkE N D := by
  have hg : 0 < gcdI N D := gcdI_pos N D h
  have hd := gcdI_dvd_left N D
  have ha := absI_div N _ hg hd
  have hD : absI D = D := by unfold absI; omega
  rw [maN, maD, maE, if_neg (by omega), if_neg (by omega), if_neg (by omega)]
  refine bd_mk _ _ _ N D ?_ ha ?_
  · rw [← ha]
    unfold sv rN
    by_cases hn : N < 0
    · have k : N / gcdI N D < 0 := Int.ediv_neg_of_neg_of_pos hn hg
      have e : sgB N D = true := by unfold sgB; simp [hn]; omega
      rw [e, if_pos rfl]; unfold absI; omega
    · have k : 0 ≤ N / gcdI N D := Int.ediv_nonneg (by omega) (by omega)
      have e : sgB N D = false := by unfold sgB; simp [hn]; omega
      rw [e, if_neg (by decide)]; unfold absI; omega
  · unfold rD; rw [hD]
/-- A parameter's cosine and sine over the number of a semi-axis. -/
theorem mer_sf {n d A : Int} (hp : pOk n d) (h1 : -d ≤ n) (h2 : n ≤ d) (hA : 1 ≤ A ∧ A ≤ 1000) : 0 < d * d + n * n ∧ d * d ≤ 400 ∧ 0 ≤ n * n ∧ n * n ≤ d * d ∧ -400 ≤ n * d ∧ n * d ≤ 400 ∧ 1 ≤ d := by
  obtain ⟨o, x1, x2, x3⟩ := hp
  have p := den_pos o
  have a := bd_mul h1 h2 h1 h2
  have b := mul_up (show 0 ≤ d by omega) x1 (show 0 ≤ d by omega) x1
  have c := bd_mul x3 x2 (show -20 ≤ d by omega) x1
  have e : 0 < d * d := Int.mul_pos p p
  have f : 0 ≤ n * n := by
    rcases Int.le_total 0 n with q | q
    · exact Int.mul_nonneg q q
    · exact Int.mul_nonneg_of_nonpos_of_nonpos q q
  omega
theorem q_cs {n d : Int} (hd : 1 ≤ d) (hw : 0 < d * d + n * n) (m : Int) : qv (m * (d * d - n * n)) (d * d + n * n) * (1 + qv n d * qv n d) = (m : Rat) * (1 - qv n d * qv n d) := by
  have dn : (d : Rat) ≠ 0 := cast_ne (by omega)
  have wn : ((d * d + n * n : Int) : Rat) ≠ 0 := cast_ne (by omega)
  rw [q_div n d, q_div (m * (d * d - n * n))]
  simp only [Rat.intCast_add, Rat.intCast_sub, Rat.intCast_mul] at wn ⊢
  generalize (n : Rat) = x at *
  generalize (d : Rat) = y at *
  generalize (m : Rat) = z at *
  grind
theorem q_ks {n d : Int} (hd : 1 ≤ d) (hw : 0 < d * d + n * n) (m : Int) : qv (m * (2 * (n * d))) (d * d + n * n) * (1 + qv n d * qv n d) = (m : Rat) * (2 * qv n d) := by
  have dn : (d : Rat) ≠ 0 := cast_ne (by omega)
  have wn : ((d * d + n * n : Int) : Rat) ≠ 0 := cast_ne (by omega)
  rw [q_div n d, q_div (m * (2 * (n * d)))]
  simp only [Rat.intCast_add, Rat.intCast_sub, Rat.intCast_mul] at wn ⊢
  rw [show ((2 : Int) : Rat) = 2 from rfl]
  generalize (n : Rat) = x at *
  generalize (d : Rat) = y at *
  generalize (m : Rat) = z at *
  grind
theorem ne_sq (x : Rat) : 1 + x * x ≠ 0 := by have := q_sq x; grind
/-- Places: lowest fractions x (in the meridian) and z, cs and ks, and their values. -/
theorem mer_val {n d A B : Int} (hp : pOk n d) (h1 : -d ≤ n) (h2 : n ≤ d) (hA : 1 ≤ A ∧ A ≤ 1000) (hB : 1 ≤ B ∧ B ≤ 1000) : ∃ c1 c2 k1 k2 : Int, SF c1 c2 400 800 ∧ SF k1 k2 800 800 ∧ qv c1 c2 * qv c1 c2 + qv k1 k2 * qv k1 k2 = 1 ∧
    SF (maN (A * (d * d - n * n)) (d * d + n * n)) (maD (A * (d * d - n * n)) (d * d + n * n)) 400000 800 ∧ qv (maN (A * (d * d - n * n)) (d * d + n * n)) (maD (A * (d * d - n * n)) (d * d + n * n)) = (A : Rat) * qv c1 c2 ∧
    SF (maN (B * (2 * (n * d))) (d * d + n * n)) (maD (B * (2 * (n * d))) (d * d + n * n)) 800000 800 ∧ qv (maN (B * (2 * (n * d))) (d * d + n * n)) (maD (B * (2 * (n * d))) (d * d + n * n)) = (B : Rat) * qv k1 k2 := by
  obtain ⟨w, b1, b2, b3, b4, b5, hd⟩ := mer_sf hp h1 h2 hA
  have u := bd_mul (show -1000 ≤ A by omega) hA.2 (show -400 ≤ d * d - n * n by omega) (show d * d - n * n ≤ 400 by omega)
  have v := bd_mul (show -1000 ≤ B by omega) hB.2 (show -800 ≤ 2 * (n * d) by omega) (show 2 * (n * d) ≤ 800 by omega)
  obtain ⟨ce, cS⟩ := sf_mk (A := 400) (B := 800) w (show -400 ≤ d * d - n * n by omega) (by omega) (by omega) (by omega) (by omega)
  obtain ⟨ke, kS⟩ := sf_mk (A := 800) (B := 800) w (show -800 ≤ 2 * (n * d) by omega) (by omega) (by omega) (by omega) (by omega)
  obtain ⟨xe, xS⟩ := sf_mk (A := 400000) (B := 800) w (show -400000 ≤ A * (d * d - n * n) by omega) (by omega) (by omega) (by omega) (by omega)
  obtain ⟨ze, zS⟩ := sf_mk (A := 800000) (B := 800) w (show -800000 ≤ B * (2 * (n * d)) by omega) (by omega) (by omega) (by omega) (by omega)
  have cv := (q_mk _ _ w ce).2
  have kv := (q_mk _ _ w ke).2
  have xv := (q_mk _ _ w xe).2
  have zv := (q_mk _ _ w ze).2
  have e1 := q_cs hd w 1
  have e2 := q_ks hd w 1
  have e3 := q_cs hd w A
  have e4 := q_ks hd w B
  rw [Int.one_mul, show ((1 : Int) : Rat) = 1 from rfl, Rat.one_mul, ← cv] at e1
  rw [Int.one_mul, show ((1 : Int) : Rat) = 1 from rfl, Rat.one_mul, ← kv] at e2
  rw [← xv] at e3
  rw [← zv] at e4
  have hn := ne_sq (qv n d)
  obtain ⟨r1, r2, _⟩ := ma_mk (N := A * (d * d - n * n)) w
  obtain ⟨r3, r4, _⟩ := ma_mk (N := B * (2 * (n * d))) w
  rw [r1, r2, r3, r4]
  refine ⟨_, _, _, _, cS, kS, ?_, xS, ?_, zS, ?_⟩
  · generalize qv (mkN (d * d - n * n) (d * d + n * n)) (mkD (d * d - n * n) (d * d + n * n)) = c at *
    generalize qv (mkN (2 * (n * d)) (d * d + n * n)) (mkD (2 * (n * d)) (d * d + n * n)) = k at *
    generalize qv n d = t at *
    clear e3 e4 xv zv cv kv
    grind
  · refine q_cancel hn ?_
    rw [e3]
    generalize qv (mkN (d * d - n * n) (d * d + n * n)) (mkD (d * d - n * n) (d * d + n * n)) = c at *
    generalize qv n d = t at *
    grind
  · refine q_cancel hn ?_
    rw [e4]
    generalize qv (mkN (2 * (n * d)) (d * d + n * n)) (mkD (2 * (n * d)) (d * d + n * n)) = k at *
    generalize qv n d = t at *
    grind
end Go.Proofs.Ytdolfdmgdknboaa
namespace Go.Proofs.Ytdolfdmgdknboaa
open Go.RowKit
set_option linter.unusedVariables false
set_option linter.unusedSimpArgs false

theorem gOk_in {A B : Int} (h : gOk A B) : 1 ≤ A ∧ A ≤ 1000 ∧ 1 ≤ B ∧ B ≤ 1000 := h
theorem g_Check {A B : Int} (h : gOk A B) (w : World) : Calls Try.prog 28 #[.agg #[.int .i64 A, .int .i64 B]] w fun x w' => x = .returned (.int .i64 0) ∧ Below w.heap.size w w' := geo_Check A B h.1 h.2.1 h.2.2.1 h.2.2.2 w
theorem g_param {n d : Int} (h : pOk n d) (w : World) : Calls Try.prog 68 #[.agg #[.int .i64 n, .int .i64 d]] w fun x w' => x = .returned (.bool true) ∧ Below w.heap.size w w' := by
  have c := okC_of h.1
  have CK := fun w => frac_Check n d c.1 c.2.1 c.2.2.1 c.2.2.2 w
  rw [show chkI n d = 0 from if_pos h.1] at CK
  exact geo_isParam n d CK (eq_true h.2.1) (eq_true h.2.2.2) (eq_true h.2.2.1) w
theorem g_Make {N D : Int} (h1 : -9223372036854775808 ≤ N) (h2 : N ≤ 9223372036854775807) (h3 : -9223372036854775808 ≤ D) (h4 : D ≤ 9223372036854775807) (w : World) : Calls Try.prog 108 #[.int .i64 N, .int .i64 D] w fun x w' => x = .returned (.tuple #[.agg #[.int .i64 (maN N D), .int .i64 (maD N D)], .int .i64 (maE N D)]) ∧ Below w.heap.size w w' := frac_Make N D h1 h2 h3 h4 w
/-- The place with the parameter n/d on the meridian; places. -/
def meM (A B n d : Int) : Nat → Int := fg6 (maN (A * (d * d - n * n)) (d * d + n * n)) (maD (A * (d * d - n * n)) (d * d + n * n)) 0 1 (maN (B * (2 * (n * d))) (d * d + n * n)) (maD (B * (2 * (n * d))) (d * d + n * n))
def atR (A B n d s t : Int) : Nat → Int := apR (tmR 2 s t) (meM A B n d)
def atE (A B n d s t : Int) : Int := apE (tmR 2 s t) (meM A B n d)
theorem okW_me {A B n d : Int} (hG : gOk A B) (hs : pOk n d) (h1 : -d ≤ n) (h2 : n ≤ d) : okW (meM A B n d) := by
  obtain ⟨c1, c2, k1, k2, _, _, _, x, _, z, _⟩ := mer_val (A := A) (B := B) hs h1 h2 ⟨hG.1, hG.2.1⟩ ⟨hG.2.2.1, hG.2.2.2⟩
  exact okW_of x.1 (show okF 0 1 = true by decide) z.1
theorem okW_cw {V : Nat → Int} (h : okW V) : okCW V := by
  obtain ⟨a, b, c⟩ := okW_in h
  exact ⟨okC_of a, okC_of b, okC_of c⟩
theorem par_pr {n d : Int} (h : pOk n d) : SF n d 20 20 ∧ pr_E n d = 0 := by
  have s : SF n d 20 20 := ⟨h.1, by have := h.2.2.2; omega, h.2.2.1, h.2.1⟩
  exact ⟨s, sf_turn (sf_up s (by omega) (by omega))⟩
set_option maxHeartbeats 800000 in
theorem g_At {A B n d s t : Int} (hG : gOk A B) (hs : pOk n d) (h1 : -d ≤ n) (h2 : n ≤ d) (ht : pOk s t) (w : World) :
    Calls Try.prog 22 #[.agg #[.int .i64 A, .int .i64 B], .agg #[.int .i64 n, .int .i64 d], .agg #[.int .i64 s, .int .i64 t]] w fun x w' => x = .returned (.tuple #[.agg #[.int .i64 (atR A B n d s t 0), .int .i64 (atR A B n d s t 1), .int .i64 (atR A B n d s t 2), .int .i64 (atR A B n d s t 3), .int .i64 (atR A B n d s t 4), .int .i64 (atR A B n d s t 5)], .int .i64 (atE A B n d s t)]) ∧ Below w.heap.size w w' := by
  obtain ⟨hw, b1, b2, b3, b4, b5, hd⟩ := mer_sf hs h1 h2 ⟨hG.1, hG.2.1⟩
  obtain ⟨g1, g2, g3, g4⟩ := gOk_in hG
  have u := bd_mul (show -1000 ≤ A by omega) g2 (show -400 ≤ d * d - n * n by omega) (show d * d - n * n ≤ 400 by omega)
  have v := bd_mul (show -1000 ≤ B by omega) g4 (show -800 ≤ 2 * (n * d) by omega) (show 2 * (n * d) ≤ 800 by omega)
  have v2 := bd_mul (show -2000 ≤ B * 2 by omega) (show B * 2 ≤ 2000 by omega) (show -20 ≤ n by have := hs.2.2.2; omega) hs.2.2.1
  have e8 : B * 2 * n * d = B * (2 * (n * d)) := by rw [Int.mul_assoc B 2 n, Int.mul_assoc B, Int.mul_assoc 2 n d]
  have ME := fun w => geo_meridian A B n d (n * n) (d * d) (d * d - n * n) (d * d + n * n) (B * 2) (B * 2 * n) (A * (d * d - n * n)) (B * (2 * (n * d))) _ _ _ _ _ _ (wrap_in (by omega) (by omega)) (wrap_in (by omega) (by omega)) (wrap_in (by omega) (by omega)) (wrap_in (by omega) (by omega)) (wrap_in (by omega) (by omega)) (wrap_in (by omega) (by omega)) (wrap_in (by omega) (by omega)) (by rw [e8]; exact wrap_in (by omega) (by omega))
    (fun w => g_Make (by omega) (by omega) (by omega) (by omega) w) (fun w => g_Make (by omega) (by omega) (by omega) (by omega) w) w
  have ct := okC_of ht.1
  have hd2 : d ≤ 20 := hs.2.1
  have a2 : ¬ ((2 : Int) < 0 ∨ (2 : Int) < 2) := by omega
  obtain ⟨_, _, _, _, _, _, oT, _⟩ := q_tm ht.1 a2 (par_pr ht).2
  exact geo_At (tmR 2 s t) (meM A B n d) (atR A B n d s t) A B n d s t (-d) (tmE 2 s t) (atE A B n d s t) (wrap_in (by omega) (by omega)) (eq_false (by omega)) (eq_false (by omega)) (fun w => g_Check hG w) (fun w => g_param hs w) (fun w => g_param ht w)
    (fun w => vec_TurnM 2 s t ct w) ME (fun w => vec_ApplyM _ _ (okM_okCM oT) (okW_cw (okW_me hG hs h1 h2)) w) w
/-- The matrix of the parts of the semi-axes. -/
def dgM (a b : Int) : Nat → Int
  | 0 => 1
  | 1 => a
  | 2 => 0
  | 3 => 1
  | 4 => 0
  | 5 => 1
  | 6 => 0
  | 7 => 1
  | 8 => 1
  | 9 => a
  | 10 => 0
  | 11 => 1
  | 12 => 0
  | 13 => 1
  | 14 => 0
  | 15 => 1
  | 16 => 1
  | _ => b
theorem okF_1 {a : Int} (h : 1 ≤ a) (k : a ≤ 1000000000000000000) : okF 1 a = true := okF_in ⟨h, k, by omega, by omega, by unfold gcdI; rw [show (1 : Int).natAbs = 1 from rfl, Nat.gcd_one_left]; rfl⟩
theorem okM_dg {a b : Int} (h1 : 1 ≤ a) (h2 : a ≤ 1000000000000000000) (h3 : 1 ≤ b) (h4 : b ≤ 1000000000000000000) : okM (dgM a b) := by
  have z : okF 0 1 = true := by decide
  have p := okF_1 h1 h2
  have q := okF_1 h3 h4
  refine okM_of ?_ ?_ ?_
  · show (okF 1 a && (okF 0 1 && okF 0 1)) = true
    rw [p, z]; rfl
  · show (okF 0 1 && (okF 1 a && okF 0 1)) = true
    rw [p, z]; rfl
  · show (okF 0 1 && (okF 0 1 && okF 1 b)) = true
    rw [q, z]; rfl
theorem g_shrink {a b : Int} {P : Nat → Int} (h1 : 1 ≤ a) (h2 : a ≤ 1000000000000000000) (h3 : 1 ≤ b) (h4 : b ≤ 1000000000000000000) (oP : okW P) (w : World) :
    Calls Try.prog 84 #[.agg #[.int .i64 (P 0), .int .i64 (P 1), .int .i64 (P 2), .int .i64 (P 3), .int .i64 (P 4), .int .i64 (P 5)], .int .i64 a, .int .i64 b] w fun x w' => x = .returned (.tuple #[.agg #[.int .i64 (apR (dgM a b) P 0), .int .i64 (apR (dgM a b) P 1), .int .i64 (apR (dgM a b) P 2), .int .i64 (apR (dgM a b) P 3), .int .i64 (apR (dgM a b) P 4), .int .i64 (apR (dgM a b) P 5)], .int .i64 (apE (dgM a b) P)]) ∧ Below w.heap.size w w' :=
  geo_shrink P (apR (dgM a b) P) a b _ (fun w => vec_ApplyM (dgM a b) P (okM_okCM (okM_dg h1 h2 h3 h4)) (okW_cw oP) w) w
theorem g_vCheck {P : Nat → Int} (oP : okW P) (w : World) : Calls Try.prog 110 #[.agg #[.int .i64 (P 0), .int .i64 (P 1), .int .i64 (P 2), .int .i64 (P 3), .int .i64 (P 4), .int .i64 (P 5)]] w fun x w' => x = .returned (.int .i64 0) ∧ Below w.heap.size w w' := by
  have c := okW_cw oP
  have h := vec_Check (P 0) (P 1) (P 2) (P 3) (P 4) (P 5) c.1 c.2.1 c.2.2 w
  rw [show chV (P 0) (P 1) (P 2) (P 3) (P 4) (P 5) = 0 from if_pos oP] at h
  exact h
theorem g_points1 {A B : Int} {P : Nat → Int} (hG : gOk A B) (oP : okW P) (W : World) (gg : Nat) (h1 : gg < W.heap.size) (h2 : ∀ o, o < 6 → W.cell? ⟨gg, o, none⟩ = some (.int .i64 (P o))) :
    Calls Try.prog 71 #[.agg #[.int .i64 A, .int .i64 B], .slice (some ⟨gg, 0, none⟩) 1 1] W fun x w' => x = .returned (.int .i64 0) ∧ Below W.heap.size W w' := by
  refine geo_points A B P gg 1 1 (by omega) (fun w => g_Check hG w) (fun i hi w => ?_) W h1 h2
  obtain rfl : i = 0 := by omega
  exact g_vCheck oP w
theorem g_points2 {A B : Int} {P Q : Nat → Int} (hG : gOk A B) (oP : okW P) (oQ : okW Q) (W : World) (gg : Nat) (h1 : gg < W.heap.size) (h2 : ∀ o, o < 12 → W.cell? ⟨gg, o, none⟩ = some (.int .i64 (pq P Q o))) :
    Calls Try.prog 71 #[.agg #[.int .i64 A, .int .i64 B], .slice (some ⟨gg, 0, none⟩) 2 2] W fun x w' => x = .returned (.int .i64 0) ∧ Below W.heap.size W w' := by
  refine geo_points A B (pq P Q) gg 2 2 (by omega) (fun w => g_Check hG w) (fun i hi w => ?_) W h1 h2
  rcases (show i = 0 ∨ i = 1 by omega) with rfl | rfl
  · exact g_vCheck oP w
  · exact g_vCheck oQ w
theorem g_Normal {A B : Int} {P : Nat → Int} (hG : gOk A B) (oP : okW P) (w : World) :
    Calls Try.prog 32 #[.agg #[.int .i64 A, .int .i64 B], .agg #[.int .i64 (P 0), .int .i64 (P 1), .int .i64 (P 2), .int .i64 (P 3), .int .i64 (P 4), .int .i64 (P 5)]] w fun x w' => x = .returned (.tuple #[.agg #[.int .i64 (apR (dgM (A * A) (B * B)) P 0), .int .i64 (apR (dgM (A * A) (B * B)) P 1), .int .i64 (apR (dgM (A * A) (B * B)) P 2), .int .i64 (apR (dgM (A * A) (B * B)) P 3), .int .i64 (apR (dgM (A * A) (B * B)) P 4), .int .i64 (apR (dgM (A * A) (B * B)) P 5)], .int .i64 (apE (dgM (A * A) (B * B)) P)]) ∧ Below w.heap.size w w' := by
  obtain ⟨g1, g2, g3, g4⟩ := gOk_in hG
  have u := mul_up (show 0 ≤ A by omega) g2 (show 0 ≤ A by omega) g2
  have v := mul_up (show 0 ≤ B by omega) g4 (show 0 ≤ B by omega) g4
  have u' := Int.mul_pos (show 0 < A by omega) (show 0 < A by omega)
  have v' := Int.mul_pos (show 0 < B by omega) (show 0 < B by omega)
  exact geo_Normal P _ A B (A * A) (B * B) _ (wrap_in (by omega) (by omega)) (wrap_in (by omega) (by omega)) (fun W gg h1 h2 => g_points1 hG oP W gg h1 h2) (fun w => g_shrink (by omega) (by omega) (by omega) (by omega) oP w) w
/-- The side of a point, by numbers. -/
def cmW (P Q : Nat → Int) : Int := coV (dtN (P 0) (P 1) (P 2) (P 3) (P 4) (P 5) (Q 0) (Q 1) (Q 2) (Q 3) (Q 4) (Q 5)) (dtD (P 0) (P 1) (P 2) (P 3) (P 4) (P 5) (Q 0) (Q 1) (Q 2) (Q 3) (Q 4) (Q 5)) 1 1
def dtW (P Q : Nat → Int) : Int := dtE (P 0) (P 1) (P 2) (P 3) (P 4) (P 5) (Q 0) (Q 1) (Q 2) (Q 3) (Q 4) (Q 5)
theorem g_compare {P Q : Nat → Int} (oP : okW P) (oQ : okW Q) (e : dtW P Q = 0) (w : World) :
    Calls Try.prog 73 #[.agg #[.int .i64 (P 0), .int .i64 (P 1), .int .i64 (P 2), .int .i64 (P 3), .int .i64 (P 4), .int .i64 (P 5)], .agg #[.int .i64 (Q 0), .int .i64 (Q 1), .int .i64 (Q 2), .int .i64 (Q 3), .int .i64 (Q 4), .int .i64 (Q 5)]] w fun x w' => x = .returned (.tuple #[.int .i64 (cmW P Q), .int .i64 0]) ∧ Below w.heap.size w w' := by
  have cP := okW_cw oP
  have cQ := okW_cw oQ
  have oD := (dt_in oP oQ e).1
  have cD := okC_of oD
  have DT := fun w => vec_Dot (P 0) (P 1) (P 2) (P 3) (P 4) (P 5) (Q 0) (Q 1) (Q 2) (Q 3) (Q 4) (Q 5) cP.1 cP.2.1 cP.2.2 cQ.1 cQ.2.1 cQ.2.2 w
  have e' : dtE (P 0) (P 1) (P 2) (P 3) (P 4) (P 5) (Q 0) (Q 1) (Q 2) (Q 3) (Q 4) (Q 5) = 0 := e
  rw [e'] at DT
  have CM := fun w => frac_Cmp _ _ 1 1 cD.1 cD.2.1 cD.2.2.1 cD.2.2.2 (by omega) (by omega) (by omega) (by omega) w
  rw [show chk2 (dtN (P 0) (P 1) (P 2) (P 3) (P 4) (P 5) (Q 0) (Q 1) (Q 2) (Q 3) (Q 4) (Q 5)) (dtD (P 0) (P 1) (P 2) (P 3) (P 4) (P 5) (Q 0) (Q 1) (Q 2) (Q 3) (Q 4) (Q 5)) 1 1 = 0 by unfold chk2 chkI; rw [if_pos oD]; rfl] at CM
  exact geo_compare P Q _ _ _ DT CM w
theorem g_Inside {A B : Int} {P : Nat → Int} (hG : gOk A B) (oP : okW P) (e1 : apE (dgM A B) P = 0) (e2 : dtW (apR (dgM A B) P) (apR (dgM A B) P) = 0) (w : World) :
    Calls Try.prog 26 #[.agg #[.int .i64 A, .int .i64 B], .agg #[.int .i64 (P 0), .int .i64 (P 1), .int .i64 (P 2), .int .i64 (P 3), .int .i64 (P 4), .int .i64 (P 5)]] w fun x w' => x = .returned (.tuple #[.int .i64 (cmW (apR (dgM A B) P) (apR (dgM A B) P)), .int .i64 0]) ∧ Below w.heap.size w w' := by
  obtain ⟨g1, g2, g3, g4⟩ := gOk_in hG
  have oR := (q_ap (okM_dg (a := A) (b := B) (by omega) (by omega) (by omega) (by omega)) oP e1).1
  have SH := fun w => g_shrink (a := A) (b := B) (by omega) (by omega) (by omega) (by omega) oP w
  rw [e1] at SH
  exact geo_Inside P _ A B _ (fun W gg h1 h2 => g_points1 hG oP W gg h1 h2) (fun w => geo_relative P _ A B 0 SH w) (fun w => g_compare oR oR e2 w) w
theorem g_On {A B : Int} {P : Nat → Int} (hG : gOk A B) (oP : okW P) (e1 : apE (dgM A B) P = 0) (e2 : dtW (apR (dgM A B) P) (apR (dgM A B) P) = 0) (e3 : cmW (apR (dgM A B) P) (apR (dgM A B) P) = 0) (w : World) :
    Calls Try.prog 24 #[.agg #[.int .i64 A, .int .i64 B], .agg #[.int .i64 (P 0), .int .i64 (P 1), .int .i64 (P 2), .int .i64 (P 3), .int .i64 (P 4), .int .i64 (P 5)]] w fun x w' => x = .returned (.tuple #[.bool true, .int .i64 0]) ∧ Below w.heap.size w w' :=
  geo_On P A B _ true (by rw [e3]; rfl) (fun w => g_Inside hG oP e1 e2 w) w
theorem g_Side {A B : Int} {P Q : Nat → Int} (hG : gOk A B) (oP : okW P) (oQ : okW Q) (e1 : apE (dgM A B) P = 0) (e2 : dtW (apR (dgM A B) P) (apR (dgM A B) P) = 0) (e3 : cmW (apR (dgM A B) P) (apR (dgM A B) P) = 0) (e4 : apE (dgM (A * A) (B * B)) P = 0) (e5 : dtW (apR (dgM (A * A) (B * B)) P) Q = 0) (w : World) :
    Calls Try.prog 34 #[.agg #[.int .i64 A, .int .i64 B], .agg #[.int .i64 (P 0), .int .i64 (P 1), .int .i64 (P 2), .int .i64 (P 3), .int .i64 (P 4), .int .i64 (P 5)], .agg #[.int .i64 (Q 0), .int .i64 (Q 1), .int .i64 (Q 2), .int .i64 (Q 3), .int .i64 (Q 4), .int .i64 (Q 5)]] w fun x w' => x = .returned (.tuple #[.int .i64 (cmW (apR (dgM (A * A) (B * B)) P) Q), .int .i64 0]) ∧ Below w.heap.size w w' := by
  obtain ⟨g1, g2, g3, g4⟩ := gOk_in hG
  have u := mul_up (show 0 ≤ A by omega) g2 (show 0 ≤ A by omega) g2
  have v := mul_up (show 0 ≤ B by omega) g4 (show 0 ≤ B by omega) g4
  have u' := Int.mul_pos (show 0 < A by omega) (show 0 < A by omega)
  have v' := Int.mul_pos (show 0 < B by omega) (show 0 < B by omega)
  have oN := (q_ap (okM_dg (a := A * A) (b := B * B) (by omega) (by omega) (by omega) (by omega)) oP e4).1
  exact geo_Side P Q _ A B _ _ (fun W gg h1 h2 => g_points2 hG oP oQ W gg h1 h2) (fun w => geo_mustLie P A B (fun w => g_On hG oP e1 e2 e3 w) w) (fun w => g_Normal hG oP w) (fun w => g_compare oN oQ e5 w) w
end Go.Proofs.Ytdolfdmgdknboaa
namespace Go.Proofs.Ytdolfdmgdknboaa
open Go.RowKit
set_option linter.unusedVariables false
set_option linter.unusedSimpArgs false

theorem ap_fit {M V X : Nat → Int} (oM : okM M) (oV : okW V) (h0 : doN (M 0) (M 1) (M 2) (M 3) (M 4) (M 5) (V 0) (V 1) (V 2) (V 3) (V 4) (V 5) = X 0 ∧ doD (M 0) (M 1) (M 2) (M 3) (M 4) (M 5) (V 0) (V 1) (V 2) (V 3) (V 4) (V 5) = X 1 ∧ doE (M 0) (M 1) (M 2) (M 3) (M 4) (M 5) (V 0) (V 1) (V 2) (V 3) (V 4) (V 5) = 0)
    (h1 : doN (M 6) (M 7) (M 8) (M 9) (M 10) (M 11) (V 0) (V 1) (V 2) (V 3) (V 4) (V 5) = X 2 ∧ doD (M 6) (M 7) (M 8) (M 9) (M 10) (M 11) (V 0) (V 1) (V 2) (V 3) (V 4) (V 5) = X 3 ∧ doE (M 6) (M 7) (M 8) (M 9) (M 10) (M 11) (V 0) (V 1) (V 2) (V 3) (V 4) (V 5) = 0)
    (h2 : doN (M 12) (M 13) (M 14) (M 15) (M 16) (M 17) (V 0) (V 1) (V 2) (V 3) (V 4) (V 5) = X 4 ∧ doD (M 12) (M 13) (M 14) (M 15) (M 16) (M 17) (V 0) (V 1) (V 2) (V 3) (V 4) (V 5) = X 5 ∧ doE (M 12) (M 13) (M 14) (M 15) (M 16) (M 17) (V 0) (V 1) (V 2) (V 3) (V 4) (V 5) = 0) :
    apE M V = 0 ∧ ∀ o, o < 6 → apR M V o = X o := by
  have q : okM M ∧ okW V := ⟨oM, oV⟩
  have e : apE0 M V = 0 := by unfold apE0; rw [h0.2.2, h1.2.2, h2.2.2]; rfl
  refine ⟨by rw [apE, if_pos q]; exact e, fun o ho => ?_⟩
  rw [apR, if_pos q, e, vz0]
  rcases (show o = 0 ∨ o = 1 ∨ o = 2 ∨ o = 3 ∨ o = 4 ∨ o = 5 by omega) with rfl | rfl | rfl | rfl | rfl | rfl
  · exact h0.1
  · exact h0.2.1
  · exact h1.1
  · exact h1.2.1
  · exact h2.1
  · exact h2.2.1
theorem z01 : okF 0 1 = true := by decide
/-- A row with one element beside noughts. -/
theorem do_x {a b c d e f v0 v1 v2 v3 v4 v5 x y : Int} (o1 : okV a b c d e f = true) (o2 : okV v0 v1 v2 v3 v4 v5 = true) (o : okF x y = true) (h2 : qv c d * qv v2 v3 = 0) (h3 : qv e f * qv v4 v5 = 0) (h : qv x y = qv a b * qv v0 v1) :
    doN a b c d e f v0 v1 v2 v3 v4 v5 = x ∧ doD a b c d e f v0 v1 v2 v3 v4 v5 = y ∧ doE a b c d e f v0 v1 v2 v3 v4 v5 = 0 :=
  fit_do o1 o2 o z01 z01 o o h (by rw [q_01, h2]) (by rw [q_01, h3]) (by rw [h, h2]; grind) (by rw [h, h2, h3]; grind)
theorem do_y {a b c d e f v0 v1 v2 v3 v4 v5 x y : Int} (o1 : okV a b c d e f = true) (o2 : okV v0 v1 v2 v3 v4 v5 = true) (o : okF x y = true) (h1 : qv a b * qv v0 v1 = 0) (h3 : qv e f * qv v4 v5 = 0) (h : qv x y = qv c d * qv v2 v3) :
    doN a b c d e f v0 v1 v2 v3 v4 v5 = x ∧ doD a b c d e f v0 v1 v2 v3 v4 v5 = y ∧ doE a b c d e f v0 v1 v2 v3 v4 v5 = 0 :=
  fit_do o1 o2 z01 o z01 o o (by rw [q_01, h1]) h (by rw [q_01, h3]) (by rw [h, h1]; grind) (by rw [h, h1, h3]; grind)
theorem do_z {a b c d e f v0 v1 v2 v3 v4 v5 x y : Int} (o1 : okV a b c d e f = true) (o2 : okV v0 v1 v2 v3 v4 v5 = true) (o : okF x y = true) (h1 : qv a b * qv v0 v1 = 0) (h2 : qv c d * qv v2 v3 = 0) (h : qv x y = qv e f * qv v4 v5) :
    doN a b c d e f v0 v1 v2 v3 v4 v5 = x ∧ doD a b c d e f v0 v1 v2 v3 v4 v5 = y ∧ doE a b c d e f v0 v1 v2 v3 v4 v5 = 0 :=
  fit_do o1 o2 z01 z01 o z01 o (by rw [q_01, h1]) (by rw [q_01, h2]) h (by rw [q_01, h1, h2]; grind) (by rw [h, h1, h2]; grind)
theorem q_0v (d : Int) (x : Rat) : qv 0 d * x = 0 := by rw [q_00]; grind
theorem q_v0 (d : Int) (x : Rat) : x * qv 0 d = 0 := by rw [q_00]; grind
/-- A diagonal matrix and a vector. -/
theorem dg_fit {a b : Int} {V X : Nat → Int} (h1 : 1 ≤ a) (h2 : a ≤ 1000000000000000000) (h3 : 1 ≤ b) (h4 : b ≤ 1000000000000000000) (oV : okW V) (oX : okW X) (e0 : vv X 0 = qv 1 a * vv V 0) (e1 : vv X 1 = qv 1 a * vv V 1) (e2 : vv X 2 = qv 1 b * vv V 2) :
    apE (dgM a b) V = 0 ∧ ∀ o, o < 6 → apR (dgM a b) V o = X o := by
  have oM := okM_dg h1 h2 h3 h4
  obtain ⟨u1, u2, u3⟩ := okM_row _ oM
  obtain ⟨x0, x1, x2⟩ := okW_in oX
  exact ap_fit oM oV (do_x u1 oV x0 (q_0v _ _) (q_0v _ _) e0) (do_y u2 oV x1 (q_0v _ _) (q_0v _ _) e1) (do_z u3 oV x2 (q_0v _ _) (q_0v _ _) e2)
/-- What is known of a place: its error, its values. -/
theorem at_val {A B n d s t : Int} (hG : gOk A B) (hs : pOk n d) (h1 : -d ≤ n) (h2 : n ≤ d) (ht : pOk s t) : atE A B n d s t = 0 ∧ ∃ c1 c2 k1 k2 f1 f2 g1 g2 : Int, SF c1 c2 400 800 ∧ SF k1 k2 800 800 ∧ qv c1 c2 * qv c1 c2 + qv k1 k2 * qv k1 k2 = 1 ∧ SF f1 f2 800 800 ∧ SF g1 g2 800 800 ∧ qv f1 f2 * qv f1 f2 + qv g1 g2 * qv g1 g2 = 1 ∧
    SF (atR A B n d s t 0) (atR A B n d s t 1) 320000000 640000 ∧ SF (atR A B n d s t 2) (atR A B n d s t 3) 320000000 640000 ∧ SF (atR A B n d s t 4) (atR A B n d s t 5) 800000 800 ∧
    vv (atR A B n d s t) 0 = qv f1 f2 * ((A : Rat) * qv c1 c2) ∧ vv (atR A B n d s t) 1 = qv g1 g2 * ((A : Rat) * qv c1 c2) ∧ vv (atR A B n d s t) 2 = (B : Rat) * qv k1 k2 := by
  obtain ⟨c1, c2, k1, k2, sc, sk, ck, sx, ex, sz, ez⟩ := mer_val (A := A) (B := B) hs h1 h2 ⟨hG.1, hG.2.1⟩ ⟨hG.2.2.1, hG.2.2.2⟩
  obtain ⟨tS, tp⟩ := par_pr ht
  have a2 : ¬ ((2 : Int) < 0 ∨ (2 : Int) < 2) := by omega
  obtain ⟨tc, ts⟩ := turn_sf tS
  obtain ⟨c, r, cr, _, _, _, oT, vT⟩ := q_tm ht.1 a2 tp
  have eT := (tm_ok 2 s t ht.1 a2 tp).1
  have v00 := vT 0 0 (by omega) (by omega)
  have v10 := vT 1 0 (by omega) (by omega)
  rw [eT] at oT v00 v10
  have w00 : qv (c_N s t) (c_D s t) = c := v00
  have w10 : qv (s_N s t) (s_D s t) = r := v10
  have oV := okW_me hG hs h1 h2
  obtain ⟨m1, mS⟩ := sf_mu tc sx (by omega) (by omega)
  obtain ⟨m2, nS⟩ := sf_mu ts sx (by omega) (by omega)
  have mv1 := (q_mu tc.1 sx.1 m1).2
  have mv2 := (q_mu ts.1 sx.1 m2).2
  obtain ⟨u1, u2, u3⟩ := okM_row _ oT
  have key := ap_fit (X := fg6 (muN (c_N s t) (c_D s t) (maN (A * (d * d - n * n)) (d * d + n * n)) (maD (A * (d * d - n * n)) (d * d + n * n))) (muD (c_N s t) (c_D s t) (maN (A * (d * d - n * n)) (d * d + n * n)) (maD (A * (d * d - n * n)) (d * d + n * n))) (muN (s_N s t) (s_D s t) (maN (A * (d * d - n * n)) (d * d + n * n)) (maD (A * (d * d - n * n)) (d * d + n * n))) (muD (s_N s t) (s_D s t) (maN (A * (d * d - n * n)) (d * d + n * n)) (maD (A * (d * d - n * n)) (d * d + n * n))) (maN (B * (2 * (n * d))) (d * d + n * n)) (maD (B * (2 * (n * d))) (d * d + n * n))) oT oV
    (do_x u1 oV mS.1 (q_v0 _ _) (q_0v _ _) mv1) (do_x u2 oV nS.1 (q_v0 _ _) (q_0v _ _) mv2) (do_z u3 oV sz.1 (q_0v _ _) (q_0v _ _) (by rw [show qv (tuN (2 : Int).toNat (c_N s t) (c_D s t) (s_N s t) (s_D s t) 16) (tuN (2 : Int).toNat (c_N s t) (c_D s t) (s_N s t) (s_D s t) 17) = 1 from q_11]; exact (Rat.one_mul _).symm))
  rw [← eT] at key
  obtain ⟨ke, kr⟩ := key
  have r0 := kr 0 (by omega)
  have r1 := kr 1 (by omega)
  have r2 := kr 2 (by omega)
  have r3 := kr 3 (by omega)
  have r4 := kr 4 (by omega)
  have r5 := kr 5 (by omega)
  refine ⟨ke, c1, c2, k1, k2, c_N s t, c_D s t, s_N s t, s_D s t, sc, sk, ck, tc, ts, by rw [w00, w10]; exact cr, ?_, ?_, ?_, ?_, ?_, ?_⟩
  · unfold atR; rw [r0, r1]; exact mS
  · unfold atR; rw [r2, r3]; exact nS
  · unfold atR; rw [r4, r5]; exact sz
  · show qv (atR A B n d s t 0) (atR A B n d s t 1) = _
    unfold atR; rw [r0, r1]; exact mv1.trans (by rw [ex])
  · show qv (atR A B n d s t 2) (atR A B n d s t 3) = _
    unfold atR; rw [r2, r3]; exact mv2.trans (by rw [ex])
  · show qv (atR A B n d s t 4) (atR A B n d s t 5) = _
    unfold atR; rw [r4, r5]; exact ez
end Go.Proofs.Ytdolfdmgdknboaa
namespace Go.Proofs.Ytdolfdmgdknboaa
open Go.RowKit
set_option linter.unusedVariables false
set_option linter.unusedSimpArgs false

theorem g_Add {a b c d : Int} (h : okC a b) (k : okC c d) (w : World) : Calls Try.prog 106 #[.agg #[.int .i64 a, .int .i64 b], .agg #[.int .i64 c, .int .i64 d]] w fun e w' => e = .returned (.tuple #[.agg #[.int .i64 (adN a b c d), .int .i64 (adD a b c d)], .int .i64 (adE a b c d)]) ∧ Below w.heap.size w w' :=
  frac_Add a b c d h.1 h.2.1 h.2.2.1 h.2.2.2 k.1 k.2.1 k.2.2.1 k.2.2.2 w
theorem g_Div {a b c d : Int} (h : okC a b) (k : okC c d) (w : World) : Calls Try.prog 107 #[.agg #[.int .i64 a, .int .i64 b], .agg #[.int .i64 c, .int .i64 d]] w fun e w' => e = .returned (.tuple #[.agg #[.int .i64 (dvN a b c d), .int .i64 (dvD a b c d)], .int .i64 (dvE a b c d)]) ∧ Below w.heap.size w w' :=
  frac_Div a b c d h.1 h.2.1 h.2.2.1 h.2.2.2 k.1 k.2.1 k.2.2.1 k.2.2.2 w
set_option maxRecDepth 100000 in
set_option maxHeartbeats 3200000 in
theorem galive (w : World) : Calls Try.prog 37 #[] w fun x w' => x = .returned (.bool true) ∧ Below w.heap.size w w' := by
  have hG : gOk 6 3 := by decide
  have oC : okW (fg6 0 1 0 1 3 1) := by decide +kernel
  have oM : okW (fg6 (-6) 1 0 1 0 1) := by decide +kernel
  have oH : okW (fg6 18 5 0 1 12 5) := by decide +kernel
  have o4 : okW (fg6 9 1 9 1 4 1) := by decide +kernel
  have o3 : okW (fg6 9 1 9 1 3 1) := by decide +kernel
  have k01 : okC 0 1 := by unfold okC; omega
  have k11 : okC 1 1 := by unfold okC; omega
  have kn1 : okC (-1) 1 := by unfold okC; omega
  have k21 : okC 2 1 := by unfold okC; omega
  have ON : ∀ w : World, Calls Try.prog 24 #[.agg #[.int .i64 6, .int .i64 3], .agg #[.int .i64 ((-6)), .int .i64 1, .int .i64 0, .int .i64 1, .int .i64 0, .int .i64 1]] w fun x w' => x = .returned (.tuple #[.bool true, .int .i64 0]) ∧ Below w.heap.size w w' := fun w =>
    g_On (P := fg6 (-6) 1 0 1 0 1) hG oM (by decide +kernel) (by decide +kernel) (by decide +kernel) w
  refine galive_walk (fun w => ?_) (fun w => ?_) (fun w => ?_) (fun w => ?_) (fun w => ?_) (fun w => ?_) (fun w => ?_) (fun w => ON w) (fun w => ?_) w
  · have h := g_At (A := 6) (B := 3) (n := 1) (d := 2) (s := 0) (t := 1) hG (by decide +kernel) (by omega) (by omega) (by decide +kernel) w
    rw [show atR 6 3 1 2 0 1 0 = 18 from by decide +kernel, show atR 6 3 1 2 0 1 1 = 5 from by decide +kernel, show atR 6 3 1 2 0 1 2 = 0 from by decide +kernel, show atR 6 3 1 2 0 1 3 = 1 from by decide +kernel, show atR 6 3 1 2 0 1 4 = 12 from by decide +kernel, show atR 6 3 1 2 0 1 5 = 5 from by decide +kernel, show atE 6 3 1 2 0 1 = 0 from by decide +kernel] at h
    exact h
  · have h := g_At (A := 6) (B := 3) (n := 0) (d := 1) (s := 1) (t := 1) hG (by decide +kernel) (by omega) (by omega) (by decide +kernel) w
    rw [show atR 6 3 0 1 1 1 0 = 0 from by decide +kernel, show atR 6 3 0 1 1 1 1 = 1 from by decide +kernel, show atR 6 3 0 1 1 1 2 = 6 from by decide +kernel, show atR 6 3 0 1 1 1 3 = 1 from by decide +kernel, show atR 6 3 0 1 1 1 4 = 0 from by decide +kernel, show atR 6 3 0 1 1 1 5 = 1 from by decide +kernel, show atE 6 3 0 1 1 1 = 0 from by decide +kernel] at h
    exact h
  · have h := g_At (A := 6) (B := 3) (n := 1) (d := 1) (s := 0) (t := 1) hG (by decide +kernel) (by omega) (by omega) (by decide +kernel) w
    rw [show atR 6 3 1 1 0 1 0 = 0 from by decide +kernel, show atR 6 3 1 1 0 1 1 = 1 from by decide +kernel, show atR 6 3 1 1 0 1 2 = 0 from by decide +kernel, show atR 6 3 1 1 0 1 3 = 1 from by decide +kernel, show atR 6 3 1 1 0 1 4 = 3 from by decide +kernel, show atR 6 3 1 1 0 1 5 = 1 from by decide +kernel, show atE 6 3 1 1 0 1 = 0 from by decide +kernel] at h
    exact h
  · have h := g_Normal (P := fg6 0 1 0 1 3 1) hG oC w
    rw [show apR (dgM (6 * 6) (3 * 3)) (fg6 0 1 0 1 3 1) 0 = 0 from by decide +kernel, show apR (dgM (6 * 6) (3 * 3)) (fg6 0 1 0 1 3 1) 1 = 1 from by decide +kernel, show apR (dgM (6 * 6) (3 * 3)) (fg6 0 1 0 1 3 1) 2 = 0 from by decide +kernel, show apR (dgM (6 * 6) (3 * 3)) (fg6 0 1 0 1 3 1) 3 = 1 from by decide +kernel, show apR (dgM (6 * 6) (3 * 3)) (fg6 0 1 0 1 3 1) 4 = 1 from by decide +kernel, show apR (dgM (6 * 6) (3 * 3)) (fg6 0 1 0 1 3 1) 5 = 3 from by decide +kernel, show apE (dgM (6 * 6) (3 * 3)) (fg6 0 1 0 1 3 1) = 0 from by decide +kernel] at h
    exact h
  · have h := g_Side (P := fg6 0 1 0 1 3 1) (Q := fg6 9 1 9 1 4 1) hG oC o4 (by decide +kernel) (by decide +kernel) (by decide +kernel) (by decide +kernel) (by decide +kernel) w
    rw [show cmW (apR (dgM (6 * 6) (3 * 3)) (fg6 0 1 0 1 3 1)) (fg6 9 1 9 1 4 1) = 1 from by decide +kernel] at h
    exact h
  · have h := g_Side (P := fg6 0 1 0 1 3 1) (Q := fg6 9 1 9 1 3 1) hG oC o3 (by decide +kernel) (by decide +kernel) (by decide +kernel) (by decide +kernel) (by decide +kernel) w
    rw [show cmW (apR (dgM (6 * 6) (3 * 3)) (fg6 0 1 0 1 3 1)) (fg6 9 1 9 1 3 1) = 0 from by decide +kernel] at h
    exact h
  · have h := g_Side (P := fg6 0 1 0 1 3 1) (Q := fg6 18 5 0 1 12 5) hG oC oH (by decide +kernel) (by decide +kernel) (by decide +kernel) (by decide +kernel) (by decide +kernel) w
    rw [show cmW (apR (dgM (6 * 6) (3 * 3)) (fg6 0 1 0 1 3 1)) (fg6 18 5 0 1 12 5) = (-1) from by decide +kernel] at h
    exact h
  · have RL := fun w => geo_relative (fg6 (-6) 1 0 1 0 1) (apR (dgM 6 3) (fg6 (-6) 1 0 1 0 1)) 6 3 _ (fun w => g_shrink (a := 6) (b := 3) (by omega) (by omega) (by omega) (by omega) oM w) w
    have AC := fun w => geo_across (fun w => (g_Make (N := 1) (D := 1) (by omega) (by omega) (by omega) (by omega) w).mono (fun x w' h => ⟨h.1.trans (by rw [show maN 1 1 = 1 from by decide +kernel, show maD 1 1 = 1 from by decide +kernel, show maE 1 1 = 0 from by decide +kernel]), h.2⟩)) w
    have A1 := fun w => g_Add k11 k11 w
    rw [show adN 1 1 1 1 = 2 from by decide +kernel, show adD 1 1 1 1 = 1 from by decide +kernel, show adE 1 1 1 1 = 0 from by decide +kernel] at A1
    have D1 := fun w => g_Div k01 k21 w
    rw [show dvN 0 1 2 1 = 0 from by decide +kernel, show dvD 0 1 2 1 = 1 from by decide +kernel, show dvE 0 1 2 1 = 0 from by decide +kernel] at D1
    have A2 := fun w => g_Add k11 kn1 w
    rw [show adN 1 1 (-1) 1 = 0 from by decide +kernel, show adD 1 1 (-1) 1 = 1 from by decide +kernel, show adE 1 1 (-1) 1 = 0 from by decide +kernel] at A2
    have D2 := fun w => g_Div k01 k01 w
    rw [show dvN 0 1 0 1 = 0 from by decide +kernel, show dvD 0 1 0 1 = 0 from by decide +kernel, show dvE 0 1 0 1 = 18 from by decide +kernel] at D2
    have H1 := fun w => geo_half_ok 1 1 1 1 0 1 2 1 0 0 1 A1 D1 (fun w => g_param (n := 0) (d := 1) (by decide +kernel) w) w
    have H2 := fun w => geo_half_no (-1) 1 1 1 0 1 0 1 0 0 0 A2 D2 w
    have PM : ∀ w : World, Calls Try.prog 78 #[.agg #[.int .i64 (apR (dgM 6 3) (fg6 (-6) 1 0 1 0 1) 0), .int .i64 (apR (dgM 6 3) (fg6 (-6) 1 0 1 0 1) 1), .int .i64 (apR (dgM 6 3) (fg6 (-6) 1 0 1 0 1) 2), .int .i64 (apR (dgM 6 3) (fg6 (-6) 1 0 1 0 1) 3), .int .i64 (apR (dgM 6 3) (fg6 (-6) 1 0 1 0 1) 4), .int .i64 (apR (dgM 6 3) (fg6 (-6) 1 0 1 0 1) 5)]] w fun x w' => x = .returned (.tuple #[.agg #[.int .i64 0, .int .i64 1], .agg #[.int .i64 0, .int .i64 0], .bool false]) ∧ Below w.heap.size w w' := by
      intro w
      rw [show apR (dgM 6 3) (fg6 (-6) 1 0 1 0 1) 0 = -1 from by decide +kernel, show apR (dgM 6 3) (fg6 (-6) 1 0 1 0 1) 1 = 1 from by decide +kernel, show apR (dgM 6 3) (fg6 (-6) 1 0 1 0 1) 2 = 0 from by decide +kernel, show apR (dgM 6 3) (fg6 (-6) 1 0 1 0 1) 3 = 1 from by decide +kernel, show apR (dgM 6 3) (fg6 (-6) 1 0 1 0 1) 4 = 0 from by decide +kernel, show apR (dgM 6 3) (fg6 (-6) 1 0 1 0 1) 5 = 1 from by decide +kernel]
      exact geo_params AC H1 H2 w
    exact geo_Params (fg6 (-6) 1 0 1 0 1) _ 6 3 _ _ _ _ _ (fun w => geo_mustLie (fg6 (-6) 1 0 1 0 1) 6 3 (fun w => ON w) w) RL PM w
end Go.Proofs.Ytdolfdmgdknboaa
