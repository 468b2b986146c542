/-
  Plain words for vectors: valid coordinates, first errors, results with an error; bounds of products and sums of fractions; sums of products in two ways of reckoning; errors are small numbers.
-/
import Derived.Test.YtbckjccbihnlnaaFff
import Derived.Handy
import Derived.IntWalk
namespace Go.Proofs.Ytbckjccbihnlnaa
set_option linter.unusedVariables false


/-- A coordinate's numbers are of 64 bits. -/
def okC (n d : Int) : Prop := -9223372036854775808 ≤ n ∧ n ≤ 9223372036854775807 ∧ -9223372036854775808 ≤ d ∧ d ≤ 9223372036854775807
/-- A vector is valid. -/
def okV (a b c d e f : Int) : Bool := okF a b && (okF c d && okF e f)
def chV (a b c d e f : Int) : Int := if okV a b c d e f = true then 0 else 8
/-- The first of three errors. -/
def fsI (a b c : Int) : Int := if a = 0 then (if b = 0 then c else b) else a
/-- What is handed back where the error is E. -/
def vz (E x : Int) : Int := if E = 0 then x else 0

theorem okV_in {a b c d e f : Int} (h : okV a b c d e f = true) : okF a b = true ∧ okF c d = true ∧ okF e f = true := by
  unfold okV at h; simp at h; exact h
theorem okC_of {a b : Int} (h : okF a b = true) : okC a b := by
  obtain ⟨h1, h2, h3, h4, h5⟩ := okF_out h
  unfold okC; omega
theorem chk2_ok {a b c d : Int} (h : okF a b = true) (k : okF c d = true) : chk2 a b c d = 0 := by unfold chk2 chkI; rw [if_pos h, if_pos k]
theorem vz0 (x : Int) : vz 0 x = x := by unfold vz; rw [if_pos rfl]
theorem vzn {E : Int} (h : ¬ E = 0) (x : Int) : vz E x = 0 := by unfold vz; rw [if_neg h]
/-- The errors of sums, differences and multiples. -/
def vaE (a b c d e f g h i j k l : Int) : Int := if okV a b c d e f = true ∧ okV g h i j k l = true then fsI (adE a b g h) (adE c d i j) (adE e f k l) else 8
def vmE (a b c d e f s t : Int) : Int := if okV a b c d e f = true ∧ okF s t = true then fsI (muE a b s t) (muE c d s t) (muE e f s t) else 8
/-- a c + b d of fractions: the error, the numerator, the denominator. -/
def twE (a b c d e f g h : Int) : Int := if fsI (muE a b c d) (muE e f g h) 0 = 0 then adE (muN a b c d) (muD a b c d) (muN e f g h) (muD e f g h) else fsI (muE a b c d) (muE e f g h) 0
def twN (a b c d e f g h : Int) : Int := if fsI (muE a b c d) (muE e f g h) 0 = 0 then adN (muN a b c d) (muD a b c d) (muN e f g h) (muD e f g h) else 0
def twD (a b c d e f g h : Int) : Int := if fsI (muE a b c d) (muE e f g h) 0 = 0 then adD (muN a b c d) (muD a b c d) (muN e f g h) (muD e f g h) else 0
/-- The dot product of valid vectors. -/
def doF (a b c d e f g h i j k l : Int) : Int := fsI (twE a b g h c d i j) (muE e f k l) 0
def doE (a b c d e f g h i j k l : Int) : Int := if doF a b c d e f g h i j k l = 0 then adE (twN a b g h c d i j) (twD a b g h c d i j) (muN e f k l) (muD e f k l) else doF a b c d e f g h i j k l
def doN (a b c d e f g h i j k l : Int) : Int := if doF a b c d e f g h i j k l = 0 then adN (twN a b g h c d i j) (twD a b g h c d i j) (muN e f k l) (muD e f k l) else 0
def doD (a b c d e f g h i j k l : Int) : Int := if doF a b c d e f g h i j k l = 0 then adD (twN a b g h c d i j) (twD a b g h c d i j) (muN e f k l) (muD e f k l) else 0
def dtE (a b c d e f g h i j k l : Int) : Int := if okV a b c d e f = true ∧ okV g h i j k l = true then doE a b c d e f g h i j k l else 8
def dtN (a b c d e f g h i j k l : Int) : Int := if okV a b c d e f = true ∧ okV g h i j k l = true then doN a b c d e f g h i j k l else 0
def dtD (a b c d e f g h i j k l : Int) : Int := if okV a b c d e f = true ∧ okV g h i j k l = true then doD a b c d e f g h i j k l else 0
/-- The error of a cross product. -/
def crE (a b c d e f g h i j k l : Int) : Int := if okV a b c d e f = true ∧ okV g h i j k l = true then fsI (twE c d k l (-e) f i j) (twE e f g h (-a) b k l) (twE a b i j (-c) d g h) else 8
theorem okC_all {a b c d e f : Int} (h : okV a b c d e f = true) : okC a b ∧ okC c d ∧ okC e f := by
  obtain ⟨h1, h2, h3⟩ := okV_in h
  exact ⟨okC_of h1, okC_of h2, okC_of h3⟩

theorem mk_okC (N D : Int) (h : 0 < D) : okC (mkN N D) (mkD N D) := by
  have p : 0 ≤ rD N D := by
    have := Int.ediv_pos_of_pos_of_dvd h (by have := gcdI_pos N D h; omega) (gcdI_dvd_right N D)
    unfold rD; omega
  unfold mkN mkD okC
  split
  · rename_i k; unfold absI at k; omega
  · omega
theorem okC_zero : okC 0 0 := by unfold okC; omega
theorem mu_okC (a b c d : Int) : okC (muN a b c d) (muD a b c d) := by
  unfold muN muD
  by_cases h : okF a b = true ∧ okF c d = true
  · rw [if_pos h, if_pos h]
    obtain ⟨x1, x2, x3, x4, x5⟩ := okF_out h.1
    obtain ⟨y1, y2, y3, y4, y5⟩ := okF_out h.2
    exact mk_okC _ _ (Int.mul_pos (by omega) (by omega))
  · rw [if_neg h, if_neg h]; exact okC_zero
theorem ad_okC (a b c d : Int) : okC (adN a b c d) (adD a b c d) := by
  unfold adN adD
  by_cases h : okF a b = true ∧ okF c d = true
  · rw [if_pos h, if_pos h]
    obtain ⟨x1, x2, x3, x4, x5⟩ := okF_out h.1
    obtain ⟨y1, y2, y3, y4, y5⟩ := okF_out h.2
    exact mk_okC _ _ (Int.mul_pos (by omega) (by omega))
  · rw [if_neg h, if_neg h]; exact okC_zero
theorem tw_okC (a b c d e f g h : Int) : okC (twN a b c d e f g h) (twD a b c d e f g h) := by
  unfold twN twD
  by_cases k : fsI (muE a b c d) (muE e f g h) 0 = 0
  · rw [if_pos k, if_pos k]; exact ad_okC _ _ _ _
  · rw [if_neg k, if_neg k]; exact okC_zero

theorem mk_zero (N D : Int) (h : ¬ mkE N D = 0) : mkN N D = 0 ∧ mkD N D = 0 := by
  unfold mkE at h; unfold mkN mkD
  split at h
  · omega
  · rename_i k; rw [if_neg k, if_neg k]; exact ⟨rfl, rfl⟩
theorem ad_zero (a b c d : Int) (h : ¬ adE a b c d = 0) : adN a b c d = 0 ∧ adD a b c d = 0 := by
  unfold adE at h; unfold adN adD
  by_cases k : okF a b = true ∧ okF c d = true
  · rw [if_pos k] at h; rw [if_pos k, if_pos k]; exact mk_zero _ _ h
  · rw [if_neg k, if_neg k]; exact ⟨rfl, rfl⟩
theorem mu_ok (a b c d : Int) (o1 : okF a b = true) (o2 : okF c d = true) (h : muE a b c d = 0) : okF (muN a b c d) (muD a b c d) = true := by
  obtain ⟨x1, x2, x3, x4, x5⟩ := okF_out o1
  obtain ⟨y1, y2, y3, y4, y5⟩ := okF_out o2
  rw [muE, if_pos ⟨o1, o2⟩] at h
  rw [muN, muD, if_pos ⟨o1, o2⟩, if_pos ⟨o1, o2⟩]
  exact (mk_of _ _ (Int.mul_pos (by omega) (by omega)) h).1
theorem ok01 : okF 0 1 = true := by decide
theorem ad_zero_left (a b : Int) (h : okF a b = true) : adN 0 1 a b = a ∧ adD 0 1 a b = b ∧ adE 0 1 a b = 0 := by
  obtain ⟨x1, x2, x3, x4, x5⟩ := okF_out h
  rw [adN, adD, adE, if_pos ⟨ok01, h⟩, if_pos ⟨ok01, h⟩, if_pos ⟨ok01, h⟩]
  exact mk_eq _ _ _ _ (by omega) h (by rw [Int.zero_mul, Int.zero_add, Int.mul_one, Int.one_mul])
theorem tw_eq (a b c d e f g h : Int) :
    fsI (muE a b c d) (muE e f g h) (adE (muN a b c d) (muD a b c d) (muN e f g h) (muD e f g h)) = twE a b c d e f g h ∧
    vz (twE a b c d e f g h) (adN (muN a b c d) (muD a b c d) (muN e f g h) (muD e f g h)) = twN a b c d e f g h ∧
    vz (twE a b c d e f g h) (adD (muN a b c d) (muD a b c d) (muN e f g h) (muD e f g h)) = twD a b c d e f g h := by
  have Z := ad_zero (muN a b c d) (muD a b c d) (muN e f g h) (muD e f g h)
  unfold twE twN twD
  generalize adE (muN a b c d) (muD a b c d) (muN e f g h) (muD e f g h) = E at *
  generalize adN (muN a b c d) (muD a b c d) (muN e f g h) (muD e f g h) = X at *
  generalize adD (muN a b c d) (muD a b c d) (muN e f g h) (muD e f g h) = Y at *
  unfold fsI vz
  by_cases h1 : muE a b c d = 0
  · by_cases h2 : muE e f g h = 0
    · by_cases h3 : E = 0
      · simp [h1, h2, h3]
      · obtain ⟨z1, z2⟩ := Z h3
        simp [h1, h2, h3, z1, z2]
    · simp [h1, h2]
  · simp [h1]
theorem do_eq (a b c d e f g h i j k l : Int) :
    fsI (muE a b g h) (muE c d i j) (fsI (adE (muN a b g h) (muD a b g h) (muN c d i j) (muD c d i j)) (muE e f k l) (adE (adN (muN a b g h) (muD a b g h) (muN c d i j) (muD c d i j)) (adD (muN a b g h) (muD a b g h) (muN c d i j) (muD c d i j)) (muN e f k l) (muD e f k l))) = doE a b c d e f g h i j k l ∧
    vz (doE a b c d e f g h i j k l) (adN (adN (muN a b g h) (muD a b g h) (muN c d i j) (muD c d i j)) (adD (muN a b g h) (muD a b g h) (muN c d i j) (muD c d i j)) (muN e f k l) (muD e f k l)) = doN a b c d e f g h i j k l ∧
    vz (doE a b c d e f g h i j k l) (adD (adN (muN a b g h) (muD a b g h) (muN c d i j) (muD c d i j)) (adD (muN a b g h) (muD a b g h) (muN c d i j) (muD c d i j)) (muN e f k l) (muD e f k l)) = doD a b c d e f g h i j k l := by
  obtain ⟨t1, t2, t3⟩ := tw_eq a b g h c d i j
  have Z := ad_zero (adN (muN a b g h) (muD a b g h) (muN c d i j) (muD c d i j)) (adD (muN a b g h) (muD a b g h) (muN c d i j) (muD c d i j)) (muN e f k l) (muD e f k l)
  unfold doE doN doD doF
  generalize twE a b g h c d i j = TE at *
  generalize twN a b g h c d i j = TN at *
  generalize twD a b g h c d i j = TD at *
  generalize adE (muN a b g h) (muD a b g h) (muN c d i j) (muD c d i j) = AE at *
  generalize adN (muN a b g h) (muD a b g h) (muN c d i j) (muD c d i j) = AN at *
  generalize adD (muN a b g h) (muD a b g h) (muN c d i j) (muD c d i j) = AD at *
  generalize muE a b g h = e1 at *
  generalize muE c d i j = e2 at *
  generalize muE e f k l = e3 at *
  generalize muN e f k l = MN at *
  generalize muD e f k l = MD at *
  unfold fsI vz at *
  by_cases h1 : e1 = 0
  · by_cases h2 : e2 = 0
    · by_cases h3 : AE = 0
      · rw [if_pos h1, if_pos h2] at t1
        have h0 : TE = 0 := by omega
        rw [if_pos h0] at t2 t3
        subst h1; subst h2; subst h3; subst h0; subst t2; subst t3
        by_cases h4 : e3 = 0
        · by_cases h5 : adE AN AD MN MD = 0
          · simp [h4, h5]
          · obtain ⟨z1, z2⟩ := Z h5
            simp [h4, h5, z1, z2]
        · simp [h4]
      · rw [if_pos h1, if_pos h2] at t1
        subst t1
        simp [h1, h2, h3]
    · rw [if_pos h1, if_neg h2] at t1
      subst t1
      simp [h1, h2]
  · rw [if_neg h1] at t1
    subst t1
    simp [h1]
open Go.RowKit

def e18 (z : Int) : Prop := 0 ≤ z ∧ z ≤ 18
theorem mkE_e (N D : Int) : e18 (mkE N D) := by unfold e18 mkE; split <;> omega
theorem e18_8 : e18 8 := by unfold e18; omega
theorem adE_e (a b c d : Int) : e18 (adE a b c d) := by
  unfold adE; split
  · exact mkE_e _ _
  · exact e18_8
theorem muE_e (a b c d : Int) : e18 (muE a b c d) := by
  unfold muE; split
  · exact mkE_e _ _
  · exact e18_8
theorem fsI_e {a b c : Int} (h1 : e18 a) (h2 : e18 b) (h3 : e18 c) : e18 (fsI a b c) := by
  unfold fsI; split
  · split <;> assumption
  · assumption
theorem vaE_e (a b c d e f g h i j k l : Int) : e18 (vaE a b c d e f g h i j k l) := by
  unfold vaE; split
  · exact fsI_e (adE_e _ _ _ _) (adE_e _ _ _ _) (adE_e _ _ _ _)
  · exact e18_8
theorem vmE_e (a b c d e f g h : Int) : e18 (vmE a b c d e f g h) := by
  unfold vmE; split
  · exact fsI_e (muE_e _ _ _ _) (muE_e _ _ _ _) (muE_e _ _ _ _)
  · exact e18_8
theorem e18_0 : e18 0 := by unfold e18; omega
theorem twE_e (a b c d e f g h : Int) : e18 (twE a b c d e f g h) := by
  unfold twE; split
  · exact adE_e _ _ _ _
  · exact fsI_e (muE_e _ _ _ _) (muE_e _ _ _ _) e18_0
theorem dtE_e (a b c d e f g h i j k l : Int) : e18 (dtE a b c d e f g h i j k l) := by
  unfold dtE doE; split
  · split
    · exact adE_e _ _ _ _
    · exact fsI_e (twE_e _ _ _ _ _ _ _ _) (muE_e _ _ _ _) e18_0
  · exact e18_8
theorem crE_e (a b c d e f g h i j k l : Int) : e18 (crE a b c d e f g h i j k l) := by
  unfold crE; split
  · exact fsI_e (twE_e _ _ _ _ _ _ _ _) (twE_e _ _ _ _ _ _ _ _) (twE_e _ _ _ _ _ _ _ _)
  · exact e18_8
theorem chV_e (a b c d e f : Int) : e18 (chV a b c d e f) := by unfold chV e18; split <;> omega
theorem wrapE {z : Int} (h : e18 z) : IntKind.i64.wrap z = z := IntWalk.i64_in _ (by unfold e18 at h; omega)
end Go.Proofs.Ytbckjccbihnlnaa
