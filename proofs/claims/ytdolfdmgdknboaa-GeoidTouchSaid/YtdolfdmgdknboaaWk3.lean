/-
  Turns, and Is, in both packages.
-/
import Derived.Test.YtdolfdmgdknboaaKu
import Derived.Test.YtdolfdmgdknboaaMH
import Derived.Test.YtdolfdmgdknboaaMG
import Derived.Test.YtdolfdmgdknboaaWtu
import Derived.Test.YtdolfdmgdknboaaVs
import Derived.Test.YtdolfdmgdknboaaFxp
import Derived.Test.YtdolfdmgdknboaaFxq
namespace Go.Proofs.Ytdolfdmgdknboaa
open Go.RowKit
set_option linter.unusedVariables false
set_option linter.unusedSimpArgs false


theorem mkE_small (N D : Int) (hD : 0 < D) (h1 : absI N ≤ 1000000000000000000) (h2 : D ≤ 1000000000000000000) : mkE N D = 0 := by
  have hg : 0 < gcdI N D := gcdI_pos N D hD
  unfold mkE
  rw [if_pos]
  refine ⟨?_, ?_⟩
  · unfold rN
    rw [absI_div N _ hg (gcdI_dvd_left N D)]
    exact Int.le_trans (Int.ediv_le_self _ (absI_nn N)) h1
  · unfold rD
    exact Int.le_trans (Int.ediv_le_self _ (by omega)) h2
theorem square_bound (n d : Int) (o : okF n d = true) (h : muE n d n d = 0) : absI n ≤ 1000000000 ∧ d ≤ 1000000000 := by
  obtain ⟨x1, x2, x3, x4, x5⟩ := okF_out o
  rw [muE, if_pos ⟨o, o⟩] at h
  have hc : Nat.Coprime n.natAbs d.natAbs := by
    have : (Nat.gcd n.natAbs d.natAbs : Int) = 1 := x5
    unfold Nat.Coprime; omega
  have hg : gcdI (n * n) (d * d) = 1 := by
    unfold gcdI
    rw [Int.natAbs_mul, Int.natAbs_mul]
    have : Nat.gcd (n.natAbs * n.natAbs) (d.natAbs * d.natAbs) = 1 := Nat.Coprime.mul_left (Nat.Coprime.mul_right hc hc) (Nat.Coprime.mul_right hc hc)
    rw [this]; rfl
  unfold mkE at h
  split at h
  · rename_i k
    unfold rN rD at k
    rw [hg, Int.ediv_one, Int.ediv_one] at k
    obtain ⟨k1, k2⟩ := k
    have k3 : n.natAbs * n.natAbs ≤ 1000000000000000000 := by
      unfold absI at k1; rw [Int.natAbs_mul] at k1; omega
    constructor
    · unfold absI
      rcases Nat.lt_or_ge 1000000000 n.natAbs with q | q
      · have := Nat.mul_le_mul (show 1000000001 ≤ n.natAbs from q) (show 1000000001 ≤ n.natAbs from q)
        omega
      · omega
    · rcases Int.lt_or_le 1000000000 d with q | q
      · have := Int.mul_le_mul (show 1000000001 ≤ d from q) (show 1000000001 ≤ d from q) (by omega) (by omega)
        omega
      · exact q
  · exact absurd h (by omega)
/-- Where a square is in range, the sum of a fraction and itself is twice the fraction. -/
theorem twice_ok (n d : Int) (o : okF n d = true) (h : muE n d n d = 0) : adE n d n d = 0 ∧ muE n d 2 1 = 0 ∧ adN n d n d = muN n d 2 1 ∧ adD n d n d = muD n d 2 1 := by
  obtain ⟨b1, b2⟩ := square_bound n d o h
  obtain ⟨x1, x2, x3, x4, x5⟩ := okF_out o
  have o2 : okF 2 1 = true := by decide
  have hz : mkE (n * 2) (d * 1) = 0 := mkE_small _ _ (by omega) (by unfold absI at b1 ⊢; omega) (by omega)
  obtain ⟨m1, m2⟩ := mk_of (n * 2) (d * 1) (by omega) hz
  have hq : 0 < d * d := Int.mul_pos (by omega) (by omega)
  have e : (n * d + n * d) * mkD (n * 2) (d * 1) = mkN (n * 2) (d * 1) * (d * d) := by
    generalize mkN (n * 2) (d * 1) = a at *
    generalize mkD (n * 2) (d * 1) = b at *
    rw [Int.mul_one] at m2
    rw [← Int.mul_assoc, m2]
    grind
  obtain ⟨a1, a2, a3⟩ := mk_eq (n * d + n * d) (d * d) _ _ hq m1 e
  have q1 : okF n d = true ∧ okF n d = true := ⟨o, o⟩
  have q2 : okF n d = true ∧ okF 2 1 = true := ⟨o, o2⟩
  simp only [adE, adN, adD, muE, muN, muD, if_pos q1, if_pos q2]
  exact ⟨a3, hz, a1, a2⟩

/-- The parts of a turn. -/
def l_N (n d : Int) : Int := adN 1 1 (-(muN n d n d)) (muD n d n d)
def l_D (n d : Int) : Int := adD 1 1 (-(muN n d n d)) (muD n d n d)
def l_E (n d : Int) : Int := adE 1 1 (-(muN n d n d)) (muD n d n d)
def h_N (n d : Int) : Int := adN 1 1 (muN n d n d) (muD n d n d)
def h_D (n d : Int) : Int := adD 1 1 (muN n d n d) (muD n d n d)
def h_E (n d : Int) : Int := adE 1 1 (muN n d n d) (muD n d n d)
def c_N (n d : Int) : Int := dvN (l_N n d) (l_D n d) (h_N n d) (h_D n d)
def c_D (n d : Int) : Int := dvD (l_N n d) (l_D n d) (h_N n d) (h_D n d)
def c_E (n d : Int) : Int := dvE (l_N n d) (l_D n d) (h_N n d) (h_D n d)
def s_N (n d : Int) : Int := dvN (muN n d 2 1) (muD n d 2 1) (h_N n d) (h_D n d)
def s_D (n d : Int) : Int := dvD (muN n d 2 1) (muD n d 2 1) (h_N n d) (h_D n d)
def s_E (n d : Int) : Int := dvE (muN n d 2 1) (muD n d 2 1) (h_N n d) (h_D n d)
/-- The error of the cosine and the sine. -/
def pr_E (n d : Int) : Int := if fsI (muE n d n d) (l_E n d) (h_E n d) = 0 then fsI (c_E n d) (muE n d 2 1) (s_E n d) else fsI (muE n d n d) (l_E n d) (h_E n d)
theorem okC_vz (e a b : Int) (h : okC a b) : okC (vz e a) (vz e b) := by
  unfold vz; by_cases q : e = 0
  · rw [if_pos q, if_pos q]; exact h
  · rw [if_neg q, if_neg q]; exact okC_zero
theorem okC_11 : okC 1 1 := by unfold okC; omega
theorem dv_okC (a b c d : Int) : okC (dvN a b c d) (dvD a b c d) := by
  unfold dvN dvD
  by_cases h : okF a b = true ∧ okF c d = true
  · rw [if_pos h, if_pos h]
    by_cases z : c = 0
    · rw [if_pos z, if_pos z]; exact okC_zero
    · rw [if_neg z, if_neg z]
      obtain ⟨x1, x2, x3, x4, x5⟩ := okF_out h.1
      exact mk_okC _ _ (Int.mul_pos (by omega) (by unfold absI; omega))
  · rw [if_neg h, if_neg h]; exact okC_zero
theorem neg_okC (a b c d : Int) : okC (-(muN a b c d)) (muD a b c d) := by
  have h : -1000000000000000000 ≤ muN a b c d ∧ muN a b c d ≤ 1000000000000000000 := by
    unfold muN
    split
    · unfold mkN
      split
      · rename_i k; unfold absI at k; omega
      · omega
    · omega
  obtain ⟨_, _, h3, h4⟩ := mu_okC a b c d
  unfold okC; omega
/-- circle: its errors one behind the other, and what it returns where there is none. -/
theorem circle_all (n d : Int) (ho : okF n d = true) : ∃ c1 c2 s1 s2 : Int, (∀ w : World, Calls Try.prog 59 #[.agg #[.int .i64 n, .int .i64 d]] w fun x w' => x = .returned (.tuple #[.agg #[.int .i64 c1, .int .i64 c2], .agg #[.int .i64 s1, .int .i64 s2], .int .i64 (pr_E n d)]) ∧ Below w.heap.size w w') ∧
    (pr_E n d = 0 → c1 = c_N n d ∧ c2 = c_D n d ∧ s1 = s_N n d ∧ s2 = s_D n d) := by
  have hc := okC_of ho
  have mq := mu_okC n d n d
  let e1 := muE n d n d
  let LN := adN 1 1 (-(muN n d n d)) (muD n d n d)
  let LD := adD 1 1 (-(muN n d n d)) (muD n d n d)
  let e2 := if e1 = 0 then l_E n d else e1
  let e3 := if e2 = 0 then h_E n d else e2
  let CE := dvE (vz e1 (l_N n d)) (vz e1 (l_D n d)) (vz e2 (h_N n d)) (vz e2 (h_D n d))
  let e4 := if e3 = 0 then CE else e3
  let e5 := if e4 = 0 then adE n d n d else e4
  let SE := dvE (vz e4 (adN n d n d)) (vz e4 (adD n d n d)) (vz e2 (h_N n d)) (vz e2 (h_D n d))
  let e6 := if e5 = 0 then SE else e5
  have okl : okC (l_N n d) (l_D n d) := ad_okC _ _ _ _
  have okh : okC (h_N n d) (h_D n d) := ad_okC _ _ _ _
  have oka : okC (adN n d n d) (adD n d n d) := ad_okC _ _ _ _
  have vl := okC_vz e1 _ _ okl
  have vh := okC_vz e2 _ _ okh
  have va := okC_vz e4 _ _ oka
  have A1 := fun w => frac_Mul n d n d hc.1 hc.2.1 hc.2.2.1 hc.2.2.2 hc.1 hc.2.1 hc.2.2.1 hc.2.2.2 w
  have A2 := fun w => frac_Sub 1 1 (muN n d n d) (muD n d n d) (by omega) (by omega) (by omega) (by omega) mq.1 mq.2.1 mq.2.2.1 mq.2.2.2 w
  have A3 := fun w => frac_Add 1 1 (muN n d n d) (muD n d n d) (by omega) (by omega) (by omega) (by omega) mq.1 mq.2.1 mq.2.2.1 mq.2.2.2 w
  have A4 := fun w => frac_Div (vz e1 (l_N n d)) (vz e1 (l_D n d)) (vz e2 (h_N n d)) (vz e2 (h_D n d)) vl.1 vl.2.1 vl.2.2.1 vl.2.2.2 vh.1 vh.2.1 vh.2.2.1 vh.2.2.2 w
  have A5 := fun w => frac_Add n d n d hc.1 hc.2.1 hc.2.2.1 hc.2.2.2 hc.1 hc.2.1 hc.2.2.1 hc.2.2.2 w
  have A6 := fun w => frac_Div (vz e4 (adN n d n d)) (vz e4 (adD n d n d)) (vz e2 (h_N n d)) (vz e2 (h_D n d)) va.1 va.2.1 va.2.2.1 va.2.2.2 vh.1 vh.2.1 vh.2.2.1 vh.2.2.2 w
  have C1 : ∀ (w : World) (ge : Nat), ge < w.heap.size → w.cell? ⟨ge, 0, none⟩ = some (.int .i64 0) → w.frozen? ⟨ge, 0, none⟩ = false → Calls Try.prog 103 #[.func (.func 104) #[] #[], .agg #[.int .i64 n, .int .i64 d], .agg #[.int .i64 n, .int .i64 d], .pointer (some ⟨ge, 0, none⟩)] w fun r w' => r = .returned (.agg #[.int .i64 (muN n d n d), .int .i64 (muD n d n d)]) ∧ w'.cell? ⟨ge, 0, none⟩ = some (.int .i64 e1) ∧ w'.frozen? ⟨ge, 0, none⟩ = false ∧ But ge w w' :=
    fun w ge hg c0 f0 => circle_Mul0 ge n d n d _ _ _ A1 w hg c0 f0
  have W := vec_circle n d (muN n d n d) (muD n d n d) (vz e1 (l_N n d)) (vz e1 (l_D n d)) (vz e2 (h_N n d)) (vz e2 (h_D n d)) (vz e3 (dvN (vz e1 (l_N n d)) (vz e1 (l_D n d)) (vz e2 (h_N n d)) (vz e2 (h_D n d)))) (vz e3 (dvD (vz e1 (l_N n d)) (vz e1 (l_D n d)) (vz e2 (h_N n d)) (vz e2 (h_D n d)))) (vz e4 (adN n d n d)) (vz e4 (adD n d n d))
    (vz e5 (dvN (vz e4 (adN n d n d)) (vz e4 (adD n d n d)) (vz e2 (h_N n d)) (vz e2 (h_D n d)))) (vz e5 (dvD (vz e4 (adN n d n d)) (vz e4 (adD n d n d)) (vz e2 (h_N n d)) (vz e2 (h_D n d)))) e1 e2 e3 e4 e5 e6 (vec_whole 1) C1
    (fun w ge hg c0 f0 => circle_Sub ge e1 1 1 (muN n d n d) (muD n d n d) _ _ _ (fun _ => A2) w hg c0 f0)
    (fun w ge hg c0 f0 => circle_Add ge e2 1 1 (muN n d n d) (muD n d n d) _ _ _ (fun _ => A3) w hg c0 f0)
    (fun w ge hg c0 f0 => circle_Div ge e3 _ _ _ _ _ _ _ (fun _ => A4) w hg c0 f0)
    (fun w ge hg c0 f0 => circle_Add ge e4 n d n d _ _ _ (fun _ => A5) w hg c0 f0)
    (fun w ge hg c0 f0 => circle_Div ge e5 _ _ _ _ _ _ _ (fun _ => A6) w hg c0 f0)
  have key : e6 = pr_E n d ∧ (pr_E n d = 0 → vz e3 (dvN (vz e1 (l_N n d)) (vz e1 (l_D n d)) (vz e2 (h_N n d)) (vz e2 (h_D n d))) = c_N n d ∧ vz e3 (dvD (vz e1 (l_N n d)) (vz e1 (l_D n d)) (vz e2 (h_N n d)) (vz e2 (h_D n d))) = c_D n d ∧ vz e5 (dvN (vz e4 (adN n d n d)) (vz e4 (adD n d n d)) (vz e2 (h_N n d)) (vz e2 (h_D n d))) = s_N n d ∧ vz e5 (dvD (vz e4 (adN n d n d)) (vz e4 (adD n d n d)) (vz e2 (h_N n d)) (vz e2 (h_D n d))) = s_D n d) := by
    show (if (if (if (if (if e1 = 0 then l_E n d else e1) = 0 then h_E n d else (if e1 = 0 then l_E n d else e1)) = 0 then CE else (if (if e1 = 0 then l_E n d else e1) = 0 then h_E n d else (if e1 = 0 then l_E n d else e1))) = 0 then adE n d n d else e4) = 0 then SE else e5) = pr_E n d ∧ _
    by_cases h1 : muE n d n d = 0
    · obtain ⟨t1, t2, t3, t4⟩ := twice_ok n d ho h1
      by_cases h2 : l_E n d = 0
      · by_cases h3 : h_E n d = 0
        · have E1 : e1 = 0 := h1
          have E2 : e2 = 0 := by show (if e1 = 0 then _ else _) = 0; rw [if_pos E1]; exact h2
          have E3 : e3 = 0 := by show (if e2 = 0 then _ else _) = 0; rw [if_pos E2]; exact h3
          have hCE : CE = c_E n d := by show dvE _ _ _ _ = _; rw [E1, E2, vz0, vz0, vz0, vz0]; rfl
          have E4 : e4 = c_E n d := by show (if e3 = 0 then _ else _) = _; rw [if_pos E3]; exact hCE
          have hp : pr_E n d = fsI (c_E n d) 0 (s_E n d) := by unfold pr_E; rw [h1, h2, h3, t2]; rfl
          by_cases h4 : c_E n d = 0
          · have F4 : e4 = 0 := E4.trans h4
            have F5 : e5 = 0 := by show (if e4 = 0 then _ else _) = 0; rw [if_pos F4]; exact t1
            have hSE : SE = s_E n d := by show dvE _ _ _ _ = _; rw [F4, E2, vz0, vz0, vz0, vz0, t3, t4]; rfl
            have F6 : e6 = s_E n d := by show (if e5 = 0 then _ else _) = _; rw [if_pos F5]; exact hSE
            refine ⟨?_, fun _ => ?_⟩
            · rw [hp, h4]; exact F6
            · rw [E1, E2, E3, F4, F5]
              simp only [vz0]
              rw [t3, t4]
              exact ⟨rfl, rfl, rfl, rfl⟩
          · have F4 : ¬ e4 = 0 := by rw [E4]; exact h4
            have F5 : e5 = c_E n d := by show (if e4 = 0 then _ else _) = _; rw [if_neg F4]; exact E4
            have F6 : e6 = c_E n d := by show (if e5 = 0 then _ else _) = _; rw [if_neg (by rw [F5]; exact h4)]; exact F5
            have hp2 : pr_E n d = c_E n d := by rw [hp]; unfold fsI; rw [if_neg h4]
            exact ⟨by rw [hp2]; exact F6, fun k => absurd (hp2.symm.trans k) h4⟩
        · have E1 : e1 = 0 := h1
          have E2 : e2 = 0 := by show (if e1 = 0 then _ else _) = 0; rw [if_pos E1]; exact h2
          have E3 : e3 = h_E n d := by show (if e2 = 0 then _ else _) = _; rw [if_pos E2]
          have E4 : e4 = h_E n d := by show (if e3 = 0 then _ else _) = _; rw [if_neg (by rw [E3]; exact h3)]; exact E3
          have E5 : e5 = h_E n d := by show (if e4 = 0 then _ else _) = _; rw [if_neg (by rw [E4]; exact h3)]; exact E4
          have E6 : e6 = h_E n d := by show (if e5 = 0 then _ else _) = _; rw [if_neg (by rw [E5]; exact h3)]; exact E5
          have hp : pr_E n d = h_E n d := by unfold pr_E fsI; rw [if_pos h1, if_pos h2, if_neg h3]
          exact ⟨by rw [hp]; exact E6, fun k => absurd (hp.symm.trans k) h3⟩
      · have E1 : e1 = 0 := h1
        have E2 : e2 = l_E n d := by show (if e1 = 0 then _ else _) = _; rw [if_pos E1]
        have E3 : e3 = l_E n d := by show (if e2 = 0 then _ else _) = _; rw [if_neg (by rw [E2]; exact h2)]; exact E2
        have E4 : e4 = l_E n d := by show (if e3 = 0 then _ else _) = _; rw [if_neg (by rw [E3]; exact h2)]; exact E3
        have E5 : e5 = l_E n d := by show (if e4 = 0 then _ else _) = _; rw [if_neg (by rw [E4]; exact h2)]; exact E4
        have E6 : e6 = l_E n d := by show (if e5 = 0 then _ else _) = _; rw [if_neg (by rw [E5]; exact h2)]; exact E5
        have hp : pr_E n d = l_E n d := by unfold pr_E fsI; rw [if_pos h1, if_neg h2, if_neg h2]
        exact ⟨by rw [hp]; exact E6, fun k => absurd (hp.symm.trans k) h2⟩
    · have E1 : e1 = muE n d n d := rfl
      have E2 : e2 = muE n d n d := by show (if e1 = 0 then _ else _) = _; rw [if_neg h1]
      have E3 : e3 = muE n d n d := by show (if e2 = 0 then _ else _) = _; rw [if_neg (by rw [E2]; exact h1)]; exact E2
      have E4 : e4 = muE n d n d := by show (if e3 = 0 then _ else _) = _; rw [if_neg (by rw [E3]; exact h1)]; exact E3
      have E5 : e5 = muE n d n d := by show (if e4 = 0 then _ else _) = _; rw [if_neg (by rw [E4]; exact h1)]; exact E4
      have E6 : e6 = muE n d n d := by show (if e5 = 0 then _ else _) = _; rw [if_neg (by rw [E5]; exact h1)]; exact E5
      have hp : pr_E n d = muE n d n d := by unfold pr_E fsI; rw [if_neg h1, if_neg h1]
      exact ⟨by rw [hp]; exact E6, fun k => absurd (hp.symm.trans k) h1⟩
  refine ⟨_, _, _, _, fun w => ?_, key.2⟩
  rw [← key.1]
  exact W w
/-- What Turn returns. -/
def tmE (axis n d : Int) : Int := if okF n d = true then (if axis < 0 ∨ 2 < axis then 2 else pr_E n d) else 8
def tmR (axis n d : Int) : Nat → Int := fun o => if okF n d = true ∧ ¬ (axis < 0 ∨ 2 < axis) ∧ pr_E n d = 0 then tuN axis.toNat (c_N n d) (c_D n d) (s_N n d) (s_D n d) o else 0
theorem tm_bad (axis n d : Int) (h : ¬ okF n d = true) : tmR axis n d = (fun _ => 0) ∧ tmE axis n d = 8 := ⟨funext (fun o => if_neg (fun k => h k.1)), if_neg h⟩
theorem tm_arg (axis n d : Int) (h : okF n d = true) (ha : axis < 0 ∨ 2 < axis) : tmR axis n d = (fun _ => 0) ∧ tmE axis n d = 2 := ⟨funext (fun o => if_neg (fun k => k.2.1 ha)), by rw [tmE, if_pos h, if_pos ha]⟩
theorem tm_err (axis n d : Int) (h : okF n d = true) (ha : ¬ (axis < 0 ∨ 2 < axis)) (he : ¬ pr_E n d = 0) : tmR axis n d = (fun _ => 0) ∧ tmE axis n d = pr_E n d := ⟨funext (fun o => if_neg (fun k => he k.2.2)), by rw [tmE, if_pos h, if_neg ha]⟩
theorem tm_ok (axis n d : Int) (h : okF n d = true) (ha : ¬ (axis < 0 ∨ 2 < axis)) (he : pr_E n d = 0) : tmR axis n d = tuN axis.toNat (c_N n d) (c_D n d) (s_N n d) (s_D n d) ∧ tmE axis n d = 0 := ⟨funext (fun o => if_pos ⟨h, ha, he⟩), by rw [tmE, if_pos h, if_neg ha, he]⟩
theorem after_b (k a b : Int) (h0 : 0 ≤ k) (h1 : k < 3) (ea : (k + 1) % 3 = a) (eb : (k + 2) % 3 = b) (w : World) : Calls Try.prog 61 #[.int .i64 k] w fun x w' => x = .returned (.tuple #[.int .i64 a, .int .i64 b]) ∧ Below w.heap.size w w' := by
  refine (vec_after k h0 h1 w).mono ?_
  rintro e w' ⟨rfl, rfl⟩
  exact ⟨by rw [ea, eb], b0 _⟩
theorem mkN_bd (N D : Int) : -1000000000000000000 ≤ mkN N D ∧ mkN N D ≤ 1000000000000000000 := by
  unfold mkN
  split
  · rename_i k; obtain ⟨k1, k2⟩ := k; generalize rN N D = x at *; unfold absI at k1; omega
  · omega
theorem s_bd (n d : Int) : -9223372036854775807 ≤ s_N n d ∧ s_N n d ≤ 9223372036854775807 := by
  unfold s_N dvN
  split
  · split
    · omega
    · have := mkN_bd (muN n d 2 1 * flN (h_N n d) (h_D n d)) (muD n d 2 1 * absI (h_N n d))
      omega
  · omega
theorem vec_TurnM (axis n d : Int) (hc : okC n d) (w : World) :
    Calls Try.prog 18 #[.int .i64 axis, .agg #[.int .i64 n, .int .i64 d]] w fun x w' => x = .returned (.tuple #[.agg #[.int .i64 ((tmR axis n d) 0), .int .i64 ((tmR axis n d) 1), .int .i64 ((tmR axis n d) 2), .int .i64 ((tmR axis n d) 3), .int .i64 ((tmR axis n d) 4), .int .i64 ((tmR axis n d) 5), .int .i64 ((tmR axis n d) 6), .int .i64 ((tmR axis n d) 7), .int .i64 ((tmR axis n d) 8), .int .i64 ((tmR axis n d) 9), .int .i64 ((tmR axis n d) 10), .int .i64 ((tmR axis n d) 11), .int .i64 ((tmR axis n d) 12), .int .i64 ((tmR axis n d) 13), .int .i64 ((tmR axis n d) 14), .int .i64 ((tmR axis n d) 15), .int .i64 ((tmR axis n d) 16), .int .i64 ((tmR axis n d) 17)], .int .i64 (tmE axis n d)]) ∧ Below w.heap.size w w' := by
  have CK := fun w => frac_Check n d hc.1 hc.2.1 hc.2.2.1 hc.2.2.2 w
  by_cases ho : okF n d = true
  · rw [show chkI n d = 0 from if_pos ho] at CK
    by_cases ha : axis < 0 ∨ 2 < axis
    · obtain ⟨r1, r2⟩ := tm_arg axis n d ho ha
      rw [r1, r2]
      by_cases hl : axis < 0
      · exact vec_turn_low n d axis hl CK w
      · exact vec_turn_high n d axis hl (ha.resolve_left hl) CK w
    · obtain ⟨c1, c2, s1, s2, CI, hv⟩ := circle_all n d ho
      by_cases he : pr_E n d = 0
      · obtain ⟨r1, r2⟩ := tm_ok axis n d ho ha he
        rw [r1, r2]
        obtain ⟨rfl, rfl, rfl, rfl⟩ := hv he
        rw [he] at CI
        have MI := fun w => vec_minus (s_N n d) (s_D n d) (s_bd n d).1 (s_bd n d).2 w
        have U := fun w => vec_unit w (vec_whole 0) (vec_whole 1)
        have F0 := after_b 0 1 2 (by omega) (by omega) rfl rfl
        have F1 := after_b 1 2 0 (by omega) (by omega) rfl rfl
        have F2 := after_b 2 0 1 (by omega) (by omega) rfl rfl
        rcases (show axis = 0 ∨ axis = 1 ∨ axis = 2 by omega) with rfl | rfl | rfl
        · exact vec_turn_ok0 n d _ _ _ _ CK CI U MI F0 F1 F2 w
        · exact vec_turn_ok1 n d _ _ _ _ CK CI U MI F0 F1 F2 w
        · exact vec_turn_ok2 n d _ _ _ _ CK CI U MI F0 F1 F2 w
      · obtain ⟨r1, r2⟩ := tm_err axis n d ho ha he
        rw [r1, r2]
        rcases (show axis = 0 ∨ axis = 1 ∨ axis = 2 by omega) with rfl | rfl | rfl
        · exact vec_turn_err0 n d _ _ _ _ _ (by simp [he]) CK CI w
        · exact vec_turn_err1 n d _ _ _ _ _ (by simp [he]) CK CI w
        · exact vec_turn_err2 n d _ _ _ _ _ (by simp [he]) CK CI w
  · rw [show chkI n d = 8 from if_neg ho] at CK
    obtain ⟨r1, r2⟩ := tm_bad axis n d ho
    rw [r1, r2]
    exact vec_turn_bad n d axis CK w
theorem dots_same (M : Nat → Int) (hM : okM M) (w : World) :
    Calls Try.prog 53 #[.agg #[.int .i64 (M 0), .int .i64 (M 1), .int .i64 (M 2), .int .i64 (M 3), .int .i64 (M 4), .int .i64 (M 5), .int .i64 (M 6), .int .i64 (M 7), .int .i64 (M 8), .int .i64 (M 9), .int .i64 (M 10), .int .i64 (M 11), .int .i64 (M 12), .int .i64 (M 13), .int .i64 (M 14), .int .i64 (M 15), .int .i64 (M 16), .int .i64 (M 17)], .agg #[.int .i64 (M 0), .int .i64 (M 1), .int .i64 (M 2), .int .i64 (M 3), .int .i64 (M 4), .int .i64 (M 5), .int .i64 (M 6), .int .i64 (M 7), .int .i64 (M 8), .int .i64 (M 9), .int .i64 (M 10), .int .i64 (M 11), .int .i64 (M 12), .int .i64 (M 13), .int .i64 (M 14), .int .i64 (M 15), .int .i64 (M 16), .int .i64 (M 17)]] w fun x w' => x = .returned (.tuple #[.agg #[.int .i64 ((prR (pE9 M (fpP M)) (pL M (fpP M))) 0), .int .i64 ((prR (pE9 M (fpP M)) (pL M (fpP M))) 1), .int .i64 ((prR (pE9 M (fpP M)) (pL M (fpP M))) 2), .int .i64 ((prR (pE9 M (fpP M)) (pL M (fpP M))) 3), .int .i64 ((prR (pE9 M (fpP M)) (pL M (fpP M))) 4), .int .i64 ((prR (pE9 M (fpP M)) (pL M (fpP M))) 5), .int .i64 ((prR (pE9 M (fpP M)) (pL M (fpP M))) 6), .int .i64 ((prR (pE9 M (fpP M)) (pL M (fpP M))) 7), .int .i64 ((prR (pE9 M (fpP M)) (pL M (fpP M))) 8), .int .i64 ((prR (pE9 M (fpP M)) (pL M (fpP M))) 9), .int .i64 ((prR (pE9 M (fpP M)) (pL M (fpP M))) 10), .int .i64 ((prR (pE9 M (fpP M)) (pL M (fpP M))) 11), .int .i64 ((prR (pE9 M (fpP M)) (pL M (fpP M))) 12), .int .i64 ((prR (pE9 M (fpP M)) (pL M (fpP M))) 13), .int .i64 ((prR (pE9 M (fpP M)) (pL M (fpP M))) 14), .int .i64 ((prR (pE9 M (fpP M)) (pL M (fpP M))) 15), .int .i64 ((prR (pE9 M (fpP M)) (pL M (fpP M))) 16), .int .i64 ((prR (pE9 M (fpP M)) (pL M (fpP M))) 17)], .int .i64 (feI (pE9 M (fpP M)) 9)]) ∧ Below w.heap.size w w' := by
  have := dots_pr M (fpP M) hM (okM_flip hM).1 w
  rw [mtx_eq (P := fpP (fpP M)) (Q := M) (by apply cases18 <;> rfl)] at this
  exact this
/-- Is a matrix a rotation? -/
def isE (M : Nat → Int) : Int := if okM M then (if feI (pE9 M (fpP M)) 9 = 0 then deE M else feI (pE9 M (fpP M)) 9) else 8
def isB (M : Nat → Int) : Bool := decide (okM M ∧ feI (pE9 M (fpP M)) 9 = 0 ∧ deE M = 0 ∧ deN M = 1 ∧ deD M = 1) && matB (prR (pE9 M (fpP M)) (pL M (fpP M))) unP
theorem isB_no {M : Nat → Int} (h : ¬ (okM M ∧ feI (pE9 M (fpP M)) 9 = 0 ∧ deE M = 0 ∧ deN M = 1 ∧ deD M = 1)) : isB M = false := by unfold isB; rw [decide_eq_false h]; rfl
end Go.Proofs.Ytdolfdmgdknboaa
