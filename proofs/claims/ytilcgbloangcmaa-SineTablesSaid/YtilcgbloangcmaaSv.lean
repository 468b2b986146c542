/-
  What SineCircle states, of the numbers (no walk).
-/
import Derived.Test.YtilcgbloangcmaaSl
namespace Go.Proofs.Ytilcgbloangcmaa
set_option linter.unusedSimpArgs false
open Go.RowKit
set_option linter.unusedVariables false

theorem cs_congr {a b : Int} {n : Nat} (e : foN a n = foN b n) : csL a n = csL b n ∧ csH a n = csH b n := by
  unfold csL csH; rw [e]; exact ⟨rfl, rfl⟩
theorem cs_bd (a : Int) (n : Nat) (h1 : 1 ≤ n) (h2 : n ≤ 720) : csL a n ≤ csH a n ∧ csH a n ≤ csL a n + 1 ∧ -1000000 ≤ csL a n ∧ csH a n ≤ 1000000 := by
  have hw := ac_wid n (alN a n) h1 h2 (al_le a n h1)
  rcases cs_form a n with ⟨e1, e2⟩ | ⟨e1, e2⟩ <;> rw [e1, e2] <;> omega
theorem sq_pos {l h : Int} (h0 : 0 ≤ l) (h1 : l ≤ h) (h2 : h ≤ 1000000) : smL l h l h = l * l / 1000000 ∧ smH l h l h = (h * h + 999999) / 1000000 ∧ smE l h l h = 0 ∧ 0 ≤ l * l / 1000000 ∧ l * l / 1000000 ≤ (h * h + 999999) / 1000000 ∧ (h * h + 999999) / 1000000 ≤ 1000000 := by
  have hb : bV l h l h = true := by simp [bV, spV]; omega
  have p0 := Int.mul_nonneg h0 h0
  have p1 := Int.mul_le_mul_of_nonneg_left h1 h0
  have p2 := Int.mul_le_mul_of_nonneg_right h1 (show 0 ≤ h by omega)
  have p3 := Int.mul_comm l h
  have p4 := Int.mul_le_mul h2 h2 (show 0 ≤ h by omega) (show (0 : Int) ≤ 1000000 by omega)
  have e1 : pL l h l h = l * l / 1000000 := by unfold pL mn4 mi4; congr 1; omega
  have e2 : pH l h l h = (h * h + 999999) / 1000000 := by
    have : mx4 l h l h = h * h := by unfold mx4 ma4; omega
    unfold pH; rw [this]; omega
  have hv : spV (l * l / 1000000) ((h * h + 999999) / 1000000) = true := by simp [spV]; omega
  rw [smL, smH, smE, if_pos hb, if_pos hb, if_pos hb, e1, e2, mdL, mdH, mdE, if_pos hv, if_pos hv, if_pos hv]
  exact ⟨rfl, rfl, rfl, by omega, by omega, by omega⟩
theorem sq_opp (l h : Int) : bV (-h) (-l) (-h) (-l) = bV l h l h ∧ smL (-h) (-l) (-h) (-l) = smL l h l h ∧ smH (-h) (-l) (-h) (-l) = smH l h l h ∧ smE (-h) (-l) (-h) (-l) = smE l h l h := by
  have hs : spV (-h) (-l) = spV l h := by unfold spV; rw [decide_eq_decide]; omega
  have hb : bV (-h) (-l) (-h) (-l) = bV l h l h := by unfold bV; rw [hs]
  have e1 : mn4 (-h) (-l) (-h) (-l) = mn4 l h l h := by
    unfold mn4 mi4; rw [Int.neg_mul_neg, Int.neg_mul_neg, Int.neg_mul_neg, Int.neg_mul_neg, Int.mul_comm h l]; omega
  have e2 : mx4 (-h) (-l) (-h) (-l) = mx4 l h l h := by
    unfold mx4 ma4; rw [Int.neg_mul_neg, Int.neg_mul_neg, Int.neg_mul_neg, Int.neg_mul_neg, Int.mul_comm h l]; omega
  unfold smL smH smE pL pH
  rw [hb, e1, e2]
  exact ⟨rfl, rfl, rfl, rfl⟩
theorem cs_sq (a : Int) (n : Nat) (h1 : 1 ≤ n) (h2 : n ≤ 720) : smL (csL a n) (csH a n) (csL a n) (csH a n) = ((acL (alN a n) n * acL (alN a n) n / 1000000 : Nat) : Int) ∧ smH (csL a n) (csH a n) (csL a n) (csH a n) = (((acH (alN a n) n * acH (alN a n) n + 999999) / 1000000 : Nat) : Int) ∧ smE (csL a n) (csH a n) (csL a n) (csH a n) = 0 ∧
    ((acL (alN a n) n * acL (alN a n) n / 1000000 : Nat) : Int) ≤ (((acH (alN a n) n * acH (alN a n) n + 999999) / 1000000 : Nat) : Int) ∧ (((acH (alN a n) n * acH (alN a n) n + 999999) / 1000000 : Nat) : Int) ≤ 1000000 := by
  have hw := ac_wid n (alN a n) h1 h2 (al_le a n h1)
  have hf := cs_form a n
  generalize acL (alN a n) n = l at *
  generalize acH (alN a n) n = h at *
  have ⟨s1, s2, s3, s4, s5, s6⟩ := sq_pos (l := l) (h := h) (by omega) (by omega) (by omega)
  have el : ((l * l / 1000000 : Nat) : Int) = (l : Int) * l / 1000000 := by rw [Int.natCast_ediv, Int.natCast_mul]; rfl
  have eh : (((h * h + 999999) / 1000000 : Nat) : Int) = ((h : Int) * h + 999999) / 1000000 := by rw [Int.natCast_ediv, Int.natCast_add, Int.natCast_mul]; rfl
  rw [el, eh]
  rcases hf with ⟨e1, e2⟩ | ⟨e1, e2⟩
  · rw [e1, e2]; exact ⟨s1, s2, s3, s5, s6⟩
  · obtain ⟨_, o1, o2, o3⟩ := sq_opp (l : Int) h
    rw [e1, e2, o1, o2, o3]; exact ⟨s1, s2, s3, s5, s6⟩
/-- The squares of cosine and sine, added. -/
theorem cs_one (a : Int) (n : Nat) (h1 : 1 ≤ n) (h2 : n ≤ 720) :
    smE (csL a n) (csH a n) (csL a n) (csH a n) = 0 ∧ smE (csL (a - n) n) (csH (a - n) n) (csL (a - n) n) (csH (a - n) n) = 0 ∧
    saE (smL (csL a n) (csH a n) (csL a n) (csH a n)) (smH (csL a n) (csH a n) (csL a n) (csH a n)) (smL (csL (a - n) n) (csH (a - n) n) (csL (a - n) n) (csH (a - n) n)) (smH (csL (a - n) n) (csH (a - n) n) (csL (a - n) n) (csH (a - n) n)) = 0 ∧
    saL (smL (csL a n) (csH a n) (csL a n) (csH a n)) (smH (csL a n) (csH a n) (csL a n) (csH a n)) (smL (csL (a - n) n) (csH (a - n) n) (csL (a - n) n) (csH (a - n) n)) (smH (csL (a - n) n) (csH (a - n) n) (csL (a - n) n) (csH (a - n) n)) ≤ 1000000 ∧
    1000000 ≤ saH (smL (csL a n) (csH a n) (csL a n) (csH a n)) (smH (csL a n) (csH a n) (csL a n) (csH a n)) (smL (csL (a - n) n) (csH (a - n) n) (csL (a - n) n) (csH (a - n) n)) (smH (csL (a - n) n) (csH (a - n) n) (csL (a - n) n) (csH (a - n) n)) := by
  obtain ⟨p1, p2, p3, p4, p5⟩ := cs_sq a n h1 h2
  obtain ⟨q1, q2, q3, q4, q5⟩ := cs_sq (a - n) n h1 h2
  have hq := quad_all n (alN a n) h1 h2 (al_le a n h1)
  rw [← al_quarter a n h1] at hq
  rw [p1, p2, p3, q1, q2, q3]
  generalize acL (alN a n) n * acL (alN a n) n / 1000000 = x at *
  generalize (acH (alN a n) n * acH (alN a n) n + 999999) / 1000000 = y at *
  generalize acL (alN (a - n) n) n * acL (alN (a - n) n) n / 1000000 = z at *
  generalize (acH (alN (a - n) n) n * acH (alN (a - n) n) n + 999999) / 1000000 = u at *
  have hb : bV x y z u = true := by simp [bV, spV]; omega
  have hv : spV ((x : Int) + z) (y + u) = true := by simp [spV]; omega
  rw [saE, saL, saH, if_pos hb, if_pos hb, if_pos hb, mdE, mdL, mdH, if_pos hv, if_pos hv, if_pos hv]
  exact ⟨rfl, rfl, rfl, by omega, by omega⟩

theorem tmod_shift (k u : Int) (n : Int) : ∃ t, 4 * (k + n * u).tmod n = 4 * k.tmod n + 4 * n * t := by
  rw [Int.tmod_def, Int.tmod_def]
  exact ⟨u + k.tdiv n - (k + n * u).tdiv n, by grind⟩
theorem co_plus (k : Int) (n : Nat) (h1 : 1 ≤ n) (h2 : n ≤ 720) : coL (k + n) n = coL k n ∧ coH (k + n) n = coH k n := by
  obtain ⟨t, ht⟩ := tmod_shift k 1 n
  rw [Int.mul_one] at ht
  have e := cs_congr (fo_turn (4 * k.tmod n) t n h1)
  unfold coL coH
  rw [ht, show ((n : Int)).toNat = n by omega, e.1, e.2]
  exact ⟨rfl, rfl⟩
theorem si_neg (k : Int) (n : Nat) (h1 : 1 ≤ n) (h2 : n ≤ 720) : siL (-k) n = -siH k n ∧ siH (-k) n = -siL k n := by
  have hn : nOk (n : Int) = true := by simp [nOk]; omega
  unfold siL siH
  rw [if_pos hn, if_pos hn, if_pos hn, if_pos hn, show ((n : Int)).toNat = n by omega, Int.neg_tmod]
  refine cs_half _ _ n h1 ?_
  rw [← fo_half (4 * k.tmod n - n) 0 n h1, ← fo_neg]
  congr 1
  omega
theorem co_half (k : Int) (n : Nat) (h1 : 1 ≤ n) (h2 : n ≤ 720) (he : n % 2 = 0) : coL (k + ((n / 2 : Nat) : Int)) n = -coH k n ∧ coH (k + ((n / 2 : Nat) : Int)) n = -coL k n := by
  have hn : nOk (n : Int) = true := by simp [nOk]; omega
  unfold coL coH
  rw [if_pos hn, if_pos hn, if_pos hn, if_pos hn, show ((n : Int)).toNat = n by omega]
  refine cs_half _ _ n h1 ?_
  rw [← fo_half (4 * k.tmod n) (k.tdiv n - (k + ((n / 2 : Nat) : Int)).tdiv n) n h1, Int.tmod_def, Int.tmod_def]
  congr 1
  have : ((n / 2 : Nat) : Int) * 2 = n := by omega
  grind
theorem si_quarter (k : Int) (n : Nat) (h1 : 1 ≤ n) (h2 : n ≤ 720) (he : n % 4 = 0) : siL (k + ((n / 4 : Nat) : Int)) n = coL k n ∧ siH (k + ((n / 4 : Nat) : Int)) n = coH k n := by
  have hn : nOk (n : Int) = true := by simp [nOk]; omega
  unfold siL siH coL coH
  rw [if_pos hn, if_pos hn, if_pos hn, if_pos hn, show ((n : Int)).toNat = n by omega]
  refine cs_congr ?_
  rw [← fo_turn (4 * k.tmod n) (k.tdiv n - (k + ((n / 4 : Nat) : Int)).tdiv n) n h1, Int.tmod_def, Int.tmod_def]
  congr 1
  have : ((n / 4 : Nat) : Int) * 4 = n := by omega
  grind
/-- An enclosure has one end where the cosine is 1, one half or 0, or the opposite of them. -/
theorem cs_eq (a : Int) (n : Nat) (h1 : 1 ≤ n) (h2 : n ≤ 720) : csL a n = csH a n ↔ (alN a n = 0 ∨ 3 * alN a n = 2 * n ∨ alN a n = n) := by
  have hw := ac_wid n (alN a n) h1 h2 (al_le a n h1)
  rcases cs_form a n with ⟨e1, e2⟩ | ⟨e1, e2⟩ <;> rw [e1, e2] <;> omega
theorem dvd_fo (a : Int) (n : Nat) (h1 : 1 ≤ n) : (n : Int) ∣ a ↔ (foN a n = 0 ∨ foN a n = n ∨ foN a n = 2 * n) := by
  obtain ⟨g1, j, hj⟩ := fo_spec a n h1
  have hd : (n : Int) ∣ 4 * n * j := ⟨4 * j, by grind⟩
  have key : (n : Int) ∣ a ↔ (n : Int) ∣ (foN a n : Nat) := by
    rcases hj with hj | hj
    · constructor
      · intro h; rw [hj] at h; exact (Int.dvd_add_right hd).1 h
      · intro h; rw [hj]; exact (Int.dvd_add_right hd).2 h
    · constructor
      · intro h; rw [hj, Int.sub_eq_add_neg] at h; exact Int.dvd_neg.1 ((Int.dvd_add_right hd).1 h)
      · intro h; rw [hj, Int.sub_eq_add_neg]; exact (Int.dvd_add_right hd).2 (Int.dvd_neg.2 h)
  rw [key]
  generalize foN a n = f at *
  constructor
  · rintro ⟨c, hc⟩
    have hn : (0 : Int) < n := by omega
    by_cases c0 : c ≤ 0
    · have := Int.mul_le_mul_of_nonneg_left c0 (show (0 : Int) ≤ n by omega); omega
    · by_cases c1 : c = 1
      · subst c1; omega
      · by_cases c2 : c = 2
        · subst c2; omega
        · have := Int.mul_le_mul_of_nonneg_left (show 3 ≤ c by omega) (show (0 : Int) ≤ n by omega); omega
  · rintro (h | h | h)
    · exact ⟨0, by omega⟩
    · exact ⟨1, by omega⟩
    · exact ⟨2, by omega⟩
theorem dvd3_fo (a : Int) (n c : Nat) (h1 : 1 ≤ n) (h : 3 * foN a n = c * n) : (n : Int) ∣ 3 * a := by
  obtain ⟨g1, j, hj⟩ := fo_spec a n h1
  have h' : 3 * ((foN a n : Nat) : Int) = c * n := by rw [← Int.natCast_mul, ← h]; omega
  rcases hj with hj | hj
  · exact ⟨12 * j + c, by rw [hj]; grind⟩
  · exact ⟨12 * j - c, by rw [hj]; grind⟩
theorem fo_al (a : Int) (n : Nat) (h1 : 1 ≤ n) : foN a n = alN a n ∨ foN a n = 2 * n - alN a n := by
  obtain ⟨g1, _⟩ := fo_spec a n h1
  unfold alN; split <;> omega
/-- Both have one end: just where the angle is of quarters of a turn; one of them: where 12 of the parts are whole turns. -/
theorem both_eq (a : Int) (n : Nat) (h1 : 1 ≤ n) (h2 : n ≤ 720) : (csL a n = csH a n ∧ csL (a - n) n = csH (a - n) n) ↔ (n : Int) ∣ a := by
  rw [cs_eq a n h1 h2, cs_eq (a - n) n h1 h2, al_quarter a n h1, dvd_fo a n h1]
  have := fo_al a n h1
  have := al_le a n h1
  have hal : alN a n = if n < foN a n then 2 * n - foN a n else foN a n := rfl
  have : foN a n ≤ 2 * n := (fo_spec a n h1).1
  split at hal <;> omega
theorem one_eq (a : Int) (n : Nat) (h1 : 1 ≤ n) (h2 : n ≤ 720) (h : csL a n = csH a n ∨ csL (a - n) n = csH (a - n) n) : (n : Int) ∣ 3 * a := by
  rw [cs_eq a n h1 h2, cs_eq (a - n) n h1 h2, al_quarter a n h1] at h
  have h3 := fo_al a n h1
  have h4 := al_le a n h1
  have : 3 * foN a n = 0 * n ∨ 3 * foN a n = 1 * n ∨ 3 * foN a n = 2 * n ∨ 3 * foN a n = 3 * n ∨ 3 * foN a n = 4 * n ∨ 3 * foN a n = 5 * n ∨ 3 * foN a n = 6 * n := by omega
  rcases this with e | e | e | e | e | e | e <;> exact dvd3_fo a n _ h1 e
end Go.Proofs.Ytilcgbloangcmaa
