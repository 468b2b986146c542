/-
  Cosines and sines of half degrees: shifts, and products of enclosures (no walk).
-/
import Derived.Test.YtmjbeplcabomdaaSv
import Derived.Test.YtmjbeplcabomdaaUe
namespace Go.Proofs.Ytmjbeplcabomdaa
set_option linter.unusedVariables false
set_option linter.unusedSimpArgs false
/-- The enclosures of the cosine and the sine of so many half degrees. -/
def cL (k : Int) : Int := csL (4 * k) 720
def cH (k : Int) : Int := csH (4 * k) 720
def sL (k : Int) : Int := csL (4 * k - 720) 720
def sH (k : Int) : Int := csH (4 * k - 720) 720
theorem fo_tmod (k u : Int) : foN (4 * k.tmod 720 - u) 720 = foN (4 * k - u) 720 := by
  rw [← fo_turn (4 * k - u) (-(k.tdiv 720)) 720 (by omega), Int.tmod_def]
  congr 1
  omega
theorem co720 (k : Int) : coL k 720 = cL k ∧ coH k 720 = cH k ∧ siL k 720 = sL k ∧ siH k 720 = sH k ∧ coE 720 = 0 := by
  have hn : nOk 720 = true := by decide
  have t : (720 : Int).toNat = 720 := rfl
  have f0 := fo_tmod k 0
  rw [Int.sub_zero, Int.sub_zero] at f0
  unfold coL coH siL siH coE cL cH sL sH
  rw [if_pos hn, if_pos hn, if_pos hn, if_pos hn, if_pos hn, t]
  exact ⟨(cs_congr f0).1, (cs_congr f0).2, (cs_congr (fo_tmod k 720)).1, (cs_congr (fo_tmod k 720)).2, rfl⟩
theorem c_per (k j : Int) : cL (k + 720 * j) = cL k ∧ cH (k + 720 * j) = cH k := by
  have e : foN (4 * (k + 720 * j)) 720 = foN (4 * k) 720 := by
    rw [← fo_turn (4 * k) j 720 (by omega)]; congr 1; omega
  exact cs_congr e
theorem s_per (k j : Int) : sL (k + 720 * j) = sL k ∧ sH (k + 720 * j) = sH k := by
  have e : foN (4 * (k + 720 * j) - 720) 720 = foN (4 * k - 720) 720 := by
    rw [← fo_turn (4 * k - 720) j 720 (by omega)]; congr 1; omega
  exact cs_congr e
theorem c_quarter (k : Int) : cL (k - 180) = sL k ∧ cH (k - 180) = sH k := by
  unfold cL cH sL sH
  rw [show 4 * (k - 180) = 4 * k - 720 by omega]
  exact ⟨rfl, rfl⟩
theorem c_half (k : Int) : cL (k - 360) = -cH k ∧ cH (k - 360) = -cL k := by
  refine cs_half _ _ 720 (by omega) ?_
  rw [← fo_half (4 * k) (-1) 720 (by omega)]
  congr 1
  omega
theorem s_quarter (k : Int) : sL (k - 180) = -cH k ∧ sH (k - 180) = -cL k := by
  have h := c_half k
  have q := c_quarter (k - 180)
  rw [show k - 180 - 180 = k - 360 by omega] at q
  omega
theorem s_half (k : Int) : sL (k - 360) = -sH k ∧ sH (k - 360) = -sL k := by
  have h := c_half (k - 180)
  have q := c_quarter k
  have q2 := c_quarter (k - 360)
  rw [show k - 180 - 360 = k - 360 - 180 by omega] at h
  omega
theorem c_even (k : Int) : cL (-k) = cL k ∧ cH (-k) = cH k := by
  refine cs_congr ?_
  rw [← fo_neg (4 * k)]
  congr 1
  omega
theorem c_unit (k : Int) : unitS (cL k) (cH k) ∧ unitS (sL k) (sH k) := ⟨cs_unit _ 720 (by omega) (by omega), cs_unit _ 720 (by omega) (by omega)⟩
/-- An enclosure of one sign. -/
def sgS (l h a b : Int) : Prop := (l = a ∧ h = b) ∨ (l = -b ∧ h = -a)
theorem sm_comm (a b c d : Int) : smL a b c d = smL c d a b ∧ smH a b c d = smH c d a b ∧ smE a b c d = smE c d a b := by
  have hb : bV a b c d = bV c d a b := by unfold bV; exact Bool.and_comm _ _
  have e1 : mn4 a b c d = mn4 c d a b := by
    unfold mn4 mi4; rw [Int.mul_comm a c, Int.mul_comm a d, Int.mul_comm b c, Int.mul_comm b d]; omega
  have e2 : mx4 a b c d = mx4 c d a b := by
    unfold mx4 ma4; rw [Int.mul_comm a c, Int.mul_comm a d, Int.mul_comm b c, Int.mul_comm b d]; omega
  unfold smL smH smE pL pH
  rw [hb, e1, e2]
  exact ⟨rfl, rfl, rfl⟩
theorem sm_opp (l h c d : Int) : smL (-h) (-l) c d = -smH l h c d ∧ smH (-h) (-l) c d = -smL l h c d ∧ smE (-h) (-l) c d = smE l h c d := by
  have hs : spV (-h) (-l) = spV l h := by unfold spV; rw [decide_eq_decide]; omega
  have hb : bV (-h) (-l) c d = bV l h c d := by unfold bV; rw [hs]
  have e1 : mn4 (-h) (-l) c d = -mx4 l h c d := by
    unfold mn4 mx4 mi4 ma4; rw [Int.neg_mul, Int.neg_mul, Int.neg_mul, Int.neg_mul]; omega
  have e2 : mx4 (-h) (-l) c d = -mn4 l h c d := by
    unfold mn4 mx4 mi4 ma4; rw [Int.neg_mul, Int.neg_mul, Int.neg_mul, Int.neg_mul]; omega
  have p1 : pL (-h) (-l) c d = -pH l h c d := by unfold pL pH; rw [e1]; omega
  have p2 : pH (-h) (-l) c d = -pL l h c d := by unfold pL pH; rw [e2]; omega
  have hm : spV (-pH l h c d) (-pL l h c d) = spV (pL l h c d) (pH l h c d) := by unfold spV; rw [decide_eq_decide]; omega
  unfold smL smH smE
  rw [hb, p1, p2]
  unfold mdL mdH mdE
  rw [hm]
  refine ⟨?_, ?_, rfl⟩ <;> (split <;> (try split) <;> simp)
theorem sm_pos {a b c d : Int} (h0 : 0 ≤ a) (h1 : a ≤ b) (h2 : b ≤ 1000000) (k0 : 0 ≤ c) (k1 : c ≤ d) (k2 : d ≤ 1000000) :
    smL a b c d = a * c / 1000000 ∧ smH a b c d = (b * d + 999999) / 1000000 ∧ smE a b c d = 0 := by
  have hb : bV a b c d = true := by simp [bV, spV]; omega
  have p0 := Int.mul_nonneg h0 k0
  have p1 := Int.mul_le_mul_of_nonneg_left k1 h0
  have p2 := Int.mul_le_mul_of_nonneg_right h1 k0
  have p3 := Int.mul_le_mul_of_nonneg_right h1 (show 0 ≤ d by omega)
  have p4 := Int.mul_le_mul_of_nonneg_left k1 (show 0 ≤ b by omega)
  have p5 := Int.mul_le_mul h2 k2 (show 0 ≤ d by omega) (show (0 : Int) ≤ 1000000 by omega)
  have e1 : pL a b c d = a * c / 1000000 := by unfold pL mn4 mi4; congr 1; omega
  have e2 : pH a b c d = (b * d + 999999) / 1000000 := by
    have : mx4 a b c d = b * d := by unfold mx4 ma4; omega
    unfold pH; rw [this]; omega
  have hv : spV (a * c / 1000000) ((b * d + 999999) / 1000000) = true := by simp [spV]; omega
  rw [smL, smH, smE, if_pos hb, if_pos hb, if_pos hb, e1, e2, mdL, mdH, mdE, if_pos hv, if_pos hv, if_pos hv]
  exact ⟨rfl, rfl, rfl⟩
theorem mulS {l h l' h' a b c d : Int} (s : sgS l h a b) (t : sgS l' h' c d) (h0 : 0 ≤ a) (h1 : a ≤ b) (h2 : b ≤ 1000000) (k0 : 0 ≤ c) (k1 : c ≤ d) (k2 : d ≤ 1000000) :
    sgS (smL l h l' h') (smH l h l' h') (a * c / 1000000) ((b * d + 999999) / 1000000) ∧ smE l h l' h' = 0 := by
  obtain ⟨p1, p2, p3⟩ := sm_pos h0 h1 h2 k0 k1 k2
  obtain ⟨o1, o2, o3⟩ := sm_opp a b c d
  unfold sgS
  rcases s with ⟨rfl, rfl⟩ | ⟨rfl, rfl⟩ <;> rcases t with ⟨rfl, rfl⟩ | ⟨rfl, rfl⟩
  · omega
  · obtain ⟨c1, c2, c3⟩ := sm_comm l h (-d) (-c)
    obtain ⟨u1, u2, u3⟩ := sm_opp c d l h
    obtain ⟨v1, v2, v3⟩ := sm_comm l h c d
    omega
  · omega
  · obtain ⟨c1, c2, c3⟩ := sm_comm (-b) (-a) (-d) (-c)
    obtain ⟨u1, u2, u3⟩ := sm_opp c d (-b) (-a)
    obtain ⟨v1, v2, v3⟩ := sm_comm (-b) (-a) c d
    omega
theorem sqS {l h a b : Int} (s : sgS l h a b) (h0 : 0 ≤ a) (h1 : a ≤ b) (h2 : b ≤ 1000000) :
    smL l h l h = a * a / 1000000 ∧ smH l h l h = (b * b + 999999) / 1000000 ∧ smE l h l h = 0 := by
  obtain ⟨p1, p2, p3, _⟩ := sq_pos h0 h1 h2
  obtain ⟨_, o1, o2, o3⟩ := sq_opp a b
  rcases s with ⟨rfl, rfl⟩ | ⟨rfl, rfl⟩
  · exact ⟨p1, p2, p3⟩
  · rw [o1, o2, o3]; exact ⟨p1, p2, p3⟩
theorem sg_cs (a : Int) : sgS (csL a 720) (csH a 720) (acL (alN a 720) 720 : Nat) (acH (alN a 720) 720 : Nat) := cs_form a 720
end Go.Proofs.Ytmjbeplcabomdaa
