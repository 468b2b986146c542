/-
  The reference's Cos and Sin, walked.
-/
import Derived.Test.YtmjbeplcabomdaaTd
import Derived.Test.YtmjbeplcabomdaaSl
namespace Go.Proofs.Ytmjbeplcabomdaa
open Go.RowKit
set_option linter.unusedVariables false
set_option linter.unusedSimpArgs false

theorem bleT {a b : Nat} (h : a ≤ b) : Nat.ble a b = true := Nat.ble_eq_true_of_le h
theorem bleF {a b : Nat} (h : ¬ a ≤ b) : Nat.ble a b = false := by
  cases e : Nat.ble a b
  · rfl
  · exact absurd (Nat.le_of_ble_eq_true e) h
theorem condT {b : Bool} {x y : Nat} (h : b = true) : cond b x y = x := by subst h; rfl
theorem condF {b : Bool} {x y : Nat} (h : b = false) : cond b x y = y := by subst h; rfl
theorem condTb {b x y : Bool} (h : b = true) : cond b x y = x := by subst h; rfl
theorem condFb {b x y : Bool} (h : b = false) : cond b x y = y := by subst h; rfl
/-- What the reference's quarter comes to, by cases. -/
theorem qu_lo {k n : Nat} (h : 8 * k ≤ n) : quX k n = exC k ∧ quL k n = cond (exC k) (rnd (coR k n)) (flo (coR k n)) := by
  constructor
  · rw [quX, nmul, condTb (bleT h)]
  · rw [quL, nmul, condT (bleT h)]
theorem qu_hi {k n : Nat} (h : ¬ 8 * k ≤ n) : quX k n = exS (n - 4 * k) (4 * n) ∧ quL k n = cond (exS (n - 4 * k) (4 * n)) (rnd (siR (n - 4 * k) (4 * n))) (flo (siR (n - 4 * k) (4 * n))) := by
  constructor
  · rw [quX, nmul, condFb (bleF h), nmul, nmul, nsub]
  · rw [quL, nmul, condF (bleF h), nmul, nmul, nsub]
theorem qu_H (k n : Nat) : quH k n = cond (quX k n) (quL k n) (quL k n + 1) := by rw [quH, nadd]
theorem rnd_eq (c : Nat) : rnd c = (c + 50000000000) / 100000000000 := by rw [rnd, nadd, ndiv]
theorem flo_eq (c : Nat) : flo c = c / 100000000000 := by rw [flo, ndiv]
theorem rs_bd (s : Nat) (hs : s ≤ 100000000000000000) : ∀ (r sum t k : Nat) (b : Bool), 1 ≤ k → t ≤ sum → sum + t ≤ 200000000000000000 → rsN s r sum t k b ≤ 200000000000000000
  | 0, sum, t, k, b, hk, h1, h2 => by rw [rsN]; omega
  | r + 1, sum, t, k, b, hk, h1, h2 => by
      have hD : 2 ≤ k * (k + 1) := Nat.mul_le_mul hk (show 2 ≤ k + 1 by omega)
      have hT := tm_le t s hs
      have hq : tmN t s / (k * (k + 1)) ≤ tmN t s / 2 := Nat.div_le_div_left hD (by omega)
      rw [rsN, nadd, nmul, ndiv, nsub, nadd, nadd]
      generalize tmN t s / (k * (k + 1)) = q at *
      cases b
      · exact rs_bd s hs r _ _ _ _ (by omega) (by show q ≤ sum + q; omega) (by show sum + q + q ≤ _; omega)
      · exact rs_bd s hs r _ _ _ _ (by omega) (by show q ≤ sum - q; omega) (by show sum - q + q ≤ _; omega)
theorem co_bd {k n : Nat} (h1 : 1 ≤ n) (hk : 8 * k ≤ n) : coR k n ≤ 200000000000000000 ∧ siR k n ≤ 200000000000000000 := by
  have b := an_bd h1 hk
  have e1 : coR k n = rsN (tmN (anR k n) (anR k n)) 12 100000000000000000 100000000000000000 1 true := by rw [coR]
  have e2 : siR k n = rsN (tmN (anR k n) (anR k n)) 12 (anR k n) (anR k n) 2 true := by rw [siR]
  rw [e1, e2]
  clear e1 e2
  have hq := tm_sq (anR k n) (by omega)
  generalize tmN (anR k n) (anR k n) = s at *
  generalize anR k n = a at *
  have f : ∀ r sum t k : Nat, 1 ≤ k → t ≤ sum → sum + t ≤ 200000000000000000 → rsN s r sum t k true ≤ 200000000000000000 := fun r sum t k => rs_bd s hq r sum t k true
  generalize hr : (12 : Nat) = r
  generalize hc : (100000000000000000 : Nat) = c
  exact ⟨f r c c 1 (by omega) (by omega) (by omega), f r a a 2 (by omega) (by omega) (by omega)⟩

/-- What the code needs to know of the two ways: the number, and whether it is whole. -/
theorem qu_val (z : Bool) (x : Nat) (hx : x ≤ 200000000000000000) : ∃ l h : Int, ((cond z (rnd x) (flo x) : Nat) : Int) = l ∧ ((cond z (cond z (rnd x) (flo x)) (cond z (rnd x) (flo x) + 1) : Nat) : Int) = h ∧ (z = true → l = ((x : Int) + 50000000000) / 100000000000 ∧ h = l) ∧ (z = false → l = (x : Int) / 100000000000 ∧ h = (x : Int) / 100000000000 + 1) := by
  refine ⟨_, _, rfl, rfl, fun h => ?_, fun h => ?_⟩
  · subst h
    rw [cond_true, cond_true, rnd_eq]
    omega
  · subst h
    rw [cond_false, cond_false, flo_eq]
    omega

set_option maxHeartbeats 1600000 in
theorem ref5_quarter_lo (k n : Nat) (h1 : 1 ≤ n) (h2 : n ≤ 6000) (c : 8 * k ≤ n) (w : World) :
    Calls Try.prog 96 #[.int .i64 k, .int .i64 n] w fun e w' => e = .returned (.agg #[.int .i64 ((quL k n : Nat)), .int .i64 ((quH k n : Nat))]) ∧ Below w.heap.size w w' := by
  obtain ⟨q1, q2⟩ := qu_lo c
  have bd := (co_bd h1 c).1
  have A1 := fun w => ref5_eighth k n h1 (by omega) c w
  have A2 := fun w => ref5_exact k n false (by omega) w
  rw [qu_H, q1, q2]
  have tc : decide (8 * (k : Int) ≤ n) = true := by simp; omega
  have tc' : (8 * (k : Int) ≤ n) = True := by simp; omega
  simp only [cond_false] at A2
  generalize coR k n = x at *
  generalize siR k n = y at *
  generalize exC k = z at *
  clear q1 q2
  obtain ⟨l, h, e1, e2, f1, f2⟩ := qu_val z x bd
  rw [e1, e2]
  clear e1 e2
  cases z
  · obtain ⟨g1, g2⟩ := f2 rfl
    subst g1
    subst g2
    clear f1 f2
    have dAl := dAl; have dSt := dSt; have xC := ext_cell; have xF := ext_frozen; have xS := ext_set; have xN := ext_drewN; have xD := ext_drew; have xL := ext_lt; have xE := ext_ne; have xG := ext_nr; have xX := ext_ext; have xL1 := ext_lt1; have xL2 := ext_lt2; have xL3 := ext_lt3; have xM0 := ext_le0; have xM1 := ext_le1; have xM2 := ext_le2
    go_enter Try.func96, Try.ntmps96
    go_wp2_with fail
    refine (A1 _).mono ?_
    rintro e w1c ⟨rfl, hb1c⟩
    obtain ⟨l1c, d1c, rfl⟩ := toExt hb1c
    clear hb1c
    go_wp2_with fail
    refine (A2 _).mono ?_
    rintro e w5 ⟨rfl, rfl⟩
    go_wp2
    refine bodyPost_ret (by simp [results, Try.results96, go_sem, ext_cell, World.cell?_alloc_past, ltk2, ltk3, ltk4, ltk5, ltk6, ltk7, ltk8, ltk9, *]; try rfl) rfl ?_
    exact ⟨rfl, by (repeat (first | with_reducible exact b0 _ | (with_reducible refine bext ?_ _ _) | (with_reducible refine below_drewN ?_ _) | (with_reducible refine Below.drew ?_) | (with_reducible refine bal ?_ _)))⟩
  · obtain ⟨g1, g2⟩ := f1 rfl
    subst g2
    subst g1
    clear f1 f2
    have A3 := fun w => ref5_round (((x : Int) + 50000000000) / 100000000000) w
    have dAl := dAl; have dSt := dSt; have xC := ext_cell; have xF := ext_frozen; have xS := ext_set; have xN := ext_drewN; have xD := ext_drew; have xL := ext_lt; have xE := ext_ne; have xG := ext_nr; have xX := ext_ext; have xL1 := ext_lt1; have xL2 := ext_lt2; have xL3 := ext_lt3; have xM0 := ext_le0; have xM1 := ext_le1; have xM2 := ext_le2
    go_enter Try.func96, Try.ntmps96
    go_wp2_with fail
    refine (A1 _).mono ?_
    rintro e w2c ⟨rfl, hb2c⟩
    obtain ⟨l2c, d2c, rfl⟩ := toExt hb2c
    clear hb2c
    go_wp2_with fail
    refine (A2 _).mono ?_
    rintro e w5 ⟨rfl, rfl⟩
    go_wp2_with fail
    refine (A3 _).mono ?_
    rintro e w3c ⟨rfl, hb3c⟩
    obtain ⟨l3c, d3c, rfl⟩ := toExt hb3c
    clear hb3c
    go_wp2
    refine bodyPost_ret (by simp [results, Try.results96, go_sem, ext_cell, World.cell?_alloc_past, ltk2, ltk3, ltk4, ltk5, ltk6, ltk7, ltk8, ltk9, *]; try rfl) rfl ?_
    exact ⟨rfl, by (repeat (first | with_reducible exact b0 _ | (with_reducible refine bext ?_ _ _) | (with_reducible refine below_drewN ?_ _) | (with_reducible refine Below.drew ?_) | (with_reducible refine bal ?_ _)))⟩

set_option maxHeartbeats 1600000 in
theorem ref5_quarter_hi (k n : Nat) (h1 : 1 ≤ n) (h2 : n ≤ 6000) (hk : 4 * k ≤ n) (c : ¬ 8 * k ≤ n) (w : World) :
    Calls Try.prog 96 #[.int .i64 k, .int .i64 n] w fun e w' => e = .returned (.agg #[.int .i64 ((quL k n : Nat)), .int .i64 ((quH k n : Nat))]) ∧ Below w.heap.size w w' := by
  obtain ⟨q1, q2⟩ := qu_hi c
  have hc : 8 * (n - 4 * k) ≤ 4 * n := by omega
  have bd := (co_bd (show 1 ≤ 4 * n by omega) hc).2
  have A1 := fun w => ref5_eighth (n - 4 * k) (4 * n) (by omega) (by omega) hc w
  have A2 := fun w => ref5_exact (n - 4 * k) (4 * n) true (by omega) w
  rw [qu_H, q1, q2]
  have tc : decide (8 * (k : Int) ≤ n) = false := by simp; omega
  have tc' : (8 * (k : Int) ≤ n) = False := by simp; omega
  have d1 : ((n - 4 * k : Nat) : Int) = n - 4 * k := by omega
  have d2 : ((4 * n : Nat) : Int) = 4 * n := by omega
  simp only [cond_true] at A2
  rw [d1, d2] at A1 A2
  generalize coR (n - 4 * k) (4 * n) = x at *
  generalize siR (n - 4 * k) (4 * n) = y at *
  generalize exS (n - 4 * k) (4 * n) = z at *
  clear q1 q2 d1 d2
  obtain ⟨l, h, e1, e2, f1, f2⟩ := qu_val z y bd
  rw [e1, e2]
  clear e1 e2
  cases z
  · obtain ⟨g1, g2⟩ := f2 rfl
    subst g1
    subst g2
    clear f1 f2
    have dAl := dAl; have dSt := dSt; have xC := ext_cell; have xF := ext_frozen; have xS := ext_set; have xN := ext_drewN; have xD := ext_drew; have xL := ext_lt; have xE := ext_ne; have xG := ext_nr; have xX := ext_ext; have xL1 := ext_lt1; have xL2 := ext_lt2; have xL3 := ext_lt3; have xM0 := ext_le0; have xM1 := ext_le1; have xM2 := ext_le2
    go_enter Try.func96, Try.ntmps96
    go_wp2_with fail
    refine (A1 _).mono ?_
    rintro e w4c ⟨rfl, hb4c⟩
    obtain ⟨l4c, d4c, rfl⟩ := toExt hb4c
    clear hb4c
    go_wp2_with fail
    refine (A2 _).mono ?_
    rintro e w5 ⟨rfl, rfl⟩
    go_wp2
    refine bodyPost_ret (by simp [results, Try.results96, go_sem, ext_cell, World.cell?_alloc_past, ltk2, ltk3, ltk4, ltk5, ltk6, ltk7, ltk8, ltk9, *]; try rfl) rfl ?_
    exact ⟨rfl, by (repeat (first | with_reducible exact b0 _ | (with_reducible refine bext ?_ _ _) | (with_reducible refine below_drewN ?_ _) | (with_reducible refine Below.drew ?_) | (with_reducible refine bal ?_ _)))⟩
  · obtain ⟨g1, g2⟩ := f1 rfl
    subst g2
    subst g1
    clear f1 f2
    have A3 := fun w => ref5_round (((y : Int) + 50000000000) / 100000000000) w
    have dAl := dAl; have dSt := dSt; have xC := ext_cell; have xF := ext_frozen; have xS := ext_set; have xN := ext_drewN; have xD := ext_drew; have xL := ext_lt; have xE := ext_ne; have xG := ext_nr; have xX := ext_ext; have xL1 := ext_lt1; have xL2 := ext_lt2; have xL3 := ext_lt3; have xM0 := ext_le0; have xM1 := ext_le1; have xM2 := ext_le2
    go_enter Try.func96, Try.ntmps96
    go_wp2_with fail
    refine (A1 _).mono ?_
    rintro e w5c ⟨rfl, hb5c⟩
    obtain ⟨l5c, d5c, rfl⟩ := toExt hb5c
    clear hb5c
    go_wp2_with fail
    refine (A2 _).mono ?_
    rintro e w5 ⟨rfl, rfl⟩
    go_wp2_with fail
    refine (A3 _).mono ?_
    rintro e w6c ⟨rfl, hb6c⟩
    obtain ⟨l6c, d6c, rfl⟩ := toExt hb6c
    clear hb6c
    go_wp2
    refine bodyPost_ret (by simp [results, Try.results96, go_sem, ext_cell, World.cell?_alloc_past, ltk2, ltk3, ltk4, ltk5, ltk6, ltk7, ltk8, ltk9, *]; try rfl) rfl ?_
    exact ⟨rfl, by (repeat (first | with_reducible exact b0 _ | (with_reducible refine bext ?_ _ _) | (with_reducible refine below_drewN ?_ _) | (with_reducible refine Below.drew ?_) | (with_reducible refine bal ?_ _)))⟩

theorem ref5_quarter (k n : Nat) (h1 : 1 ≤ n) (h2 : n ≤ 6000) (hk : 4 * k ≤ n) (w : World) :
    Calls Try.prog 96 #[.int .i64 k, .int .i64 n] w fun e w' => e = .returned (.agg #[.int .i64 ((quL k n : Nat)), .int .i64 ((quH k n : Nat))]) ∧ Below w.heap.size w w' := by
  by_cases c : 8 * k ≤ n
  · exact ref5_quarter_lo k n h1 h2 c w
  · exact ref5_quarter_hi k n h1 h2 hk c w
end Go.Proofs.Ytmjbeplcabomdaa
