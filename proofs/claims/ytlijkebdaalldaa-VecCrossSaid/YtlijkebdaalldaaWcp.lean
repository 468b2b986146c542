/-
  VecCross, for all vectors.
-/
import Derived.Test.YtlijkebdaalldaaKu
import Derived.Test.YtlijkebdaalldaaWkp
import Derived.Test.YtlijkebdaalldaaWcx
import Derived.Test.YtlijkebdaalldaaWng
import Derived.Test.YtlijkebdaalldaaVv
namespace Go.Proofs.Ytlijkebdaalldaa
open Go.RowKit
set_option linter.unusedVariables false
set_option linter.unusedSimpArgs false

/-- The cross product of valid vectors. -/
def crV (V W : Nat → Int) : Nat → Int
  | 0 => twN (V 2) (V 3) (W 4) (W 5) (-(V 4)) (V 5) (W 2) (W 3)
  | 1 => twD (V 2) (V 3) (W 4) (W 5) (-(V 4)) (V 5) (W 2) (W 3)
  | 2 => twN (V 4) (V 5) (W 0) (W 1) (-(V 0)) (V 1) (W 4) (W 5)
  | 3 => twD (V 4) (V 5) (W 0) (W 1) (-(V 0)) (V 1) (W 4) (W 5)
  | 4 => twN (V 0) (V 1) (W 2) (W 3) (-(V 2)) (V 3) (W 0) (W 1)
  | _ => twD (V 0) (V 1) (W 2) (W 3) (-(V 2)) (V 3) (W 0) (W 1)
/-- Three small fractions. -/
def SV (V : Nat → Int) : Prop := SF (V 0) (V 1) 1000 20 ∧ SF (V 2) (V 3) 1000 20 ∧ SF (V 4) (V 5) 1000 20
theorem sv_ok {V : Nat → Int} (h : SV V) : okW V := okW_of h.1.1 h.2.1.1 h.2.2.1
theorem sv_ls {V W : Nat → Int} {n d : Int} (h : smL (ls V W n d)) : SV V ∧ SV W :=
  ⟨⟨smF_sf (h 0 (by omega)), smF_sf (h 1 (by omega)), smF_sf (h 2 (by omega))⟩, smF_sf (h 3 (by omega)), smF_sf (h 4 (by omega)), smF_sf (h 5 (by omega))⟩
theorem sf_tw2 {a b c d e f g h : Int} (h1 : SF a b 1000 20) (h2 : SF c d 1000 20) (h3 : SF e f 1000 20) (h4 : SF g h 1000 20) : twE a b c d e f g h = 0 :=
  (sf_tw h1 h2 h3 h4 (by omega) (by omega) (by omega) (by omega) (by omega) (by omega)).1
theorem cr_zero {V W : Nat → Int} (hV : SV V) (hW : SV W) : crE (V 0) (V 1) (V 2) (V 3) (V 4) (V 5) (W 0) (W 1) (W 2) (W 3) (W 4) (W 5) = 0 ∧ okW (crV V W) ∧
    vv (crV V W) 0 = vv V 1 * vv W 2 + -vv V 2 * vv W 1 ∧ vv (crV V W) 1 = vv V 2 * vv W 0 + -vv V 0 * vv W 2 ∧ vv (crV V W) 2 = vv V 0 * vv W 1 + -vv V 1 * vv W 0 := by
  obtain ⟨a, b, c⟩ := hV
  obtain ⟨d, e, f⟩ := hW
  have q : okV (V 0) (V 1) (V 2) (V 3) (V 4) (V 5) = true ∧ okV (W 0) (W 1) (W 2) (W 3) (W 4) (W 5) = true := ⟨sv_ok ⟨a, b, c⟩, sv_ok ⟨d, e, f⟩⟩
  have t1 := sf_tw2 b f (sf_neg c) e
  have t2 := sf_tw2 c d (sf_neg a) f
  have t3 := sf_tw2 a e (sf_neg b) d
  obtain ⟨k1, v1⟩ := q_tw b.1 f.1 (sf_neg c).1 e.1 t1
  obtain ⟨k2, v2⟩ := q_tw c.1 d.1 (sf_neg a).1 f.1 t2
  obtain ⟨k3, v3⟩ := q_tw a.1 e.1 (sf_neg b).1 d.1 t3
  rw [q_neg] at v1 v2 v3
  refine ⟨?_, okW_of k1 k2 k3, v1, v2, v3⟩
  rw [crE, if_pos q, t1, t2, t3]; rfl
theorem vec_CrossS {V W : Nat → Int} (hV : SV V) (hW : SV W) (cV : okCW V) (cW : okCW W) (w : World) :
    Calls Try.prog 17 #[.agg #[.int .i64 (V 0), .int .i64 (V 1), .int .i64 (V 2), .int .i64 (V 3), .int .i64 (V 4), .int .i64 (V 5)], .agg #[.int .i64 (W 0), .int .i64 (W 1), .int .i64 (W 2), .int .i64 (W 3), .int .i64 (W 4), .int .i64 (W 5)]] w fun x w' => x = .returned (.tuple #[.agg #[.int .i64 (crV V W 0), .int .i64 (crV V W 1), .int .i64 (crV V W 2), .int .i64 (crV V W 3), .int .i64 (crV V W 4), .int .i64 (crV V W 5)], .int .i64 0]) ∧ Below w.heap.size w w' := by
  have h := vec_Cross (V 0) (V 1) (V 2) (V 3) (V 4) (V 5) (W 0) (W 1) (W 2) (W 3) (W 4) (W 5) cV.1 cV.2.1 cV.2.2 cW.1 cW.2.1 cW.2.2 w
  rw [(cr_zero hV hW).1] at h
  simp only [vz0] at h
  exact h
def ngV (V : Nat → Int) : Nat → Int
  | 0 => -(V 0)
  | 1 => V 1
  | 2 => -(V 2)
  | 3 => V 3
  | 4 => -(V 4)
  | _ => V 5
theorem okW_ng {V : Nat → Int} (h : okW V) : okW (ngV V) := by
  obtain ⟨a, b, c⟩ := okW_in h
  exact okW_of (by rw [← okF_neg1] at a; exact a) (by rw [← okF_neg1] at b; exact b) (by rw [← okF_neg1] at c; exact c)
theorem okW_okCW {V : Nat → Int} (h : okW V) : okCW V := by
  obtain ⟨a, b, c⟩ := okW_in h
  exact ⟨okC_of a, okC_of b, okC_of c⟩
theorem okM_m3 {U V W : Nat → Int} (hU : okW U) (hV : okW V) (hW : okW W) : okM (m3 U V W) := okM_of hU hV hW
set_option maxHeartbeats 1600000 in
theorem cross_all (V W U : Nat → Int) (hV : okCW V) (hW : okCW W) (hU : okCW U) (w : World) :
    Calls Try.prog 6 #[.agg #[.int .i64 (V 0), .int .i64 (V 1), .int .i64 (V 2), .int .i64 (V 3), .int .i64 (V 4), .int .i64 (V 5)], .agg #[.int .i64 (W 0), .int .i64 (W 1), .int .i64 (W 2), .int .i64 (W 3), .int .i64 (W 4), .int .i64 (W 5)], .agg #[.int .i64 (U 0), .int .i64 (U 1), .int .i64 (U 2), .int .i64 (U 3), .int .i64 (U 4), .int .i64 (U 5)]] w fun x w' => x = .returned (.bool true) ∧ Below w.heap.size w w' := by
  have c11 : okC 1 1 := by unfold okC; omega
  have S1 := fun w => small_ls V W 1 1 hV hW c11 w
  have S2 := fun w => small_ls U U 1 1 hU hU c11 w
  have AL := fun w => law_alive w
  by_cases h1 : smL (ls V W 1 1)
  · rw [decide_eq_true h1] at S1
    by_cases h2 : smL (ls U U 1 1)
    · rw [decide_eq_true h2] at S2
      obtain ⟨sV, sW⟩ := sv_ls h1
      have sU := (sv_ls h2).1
      have oV := sv_ok sV
      have oW := sv_ok sW
      have oU := sv_ok sU
      obtain ⟨_, oC, c0, c1, c2⟩ := cr_zero sV sW
      obtain ⟨_, oD, d0, d1, d2⟩ := cr_zero sW sV
      have cC := okW_okCW oC
      have oM := okM_m3 oU oV oW
      have oF := (okM_flip oM).1
      have eN : ∀ o, o < 6 → ngV (crV W V) o = crV V W o := by
        refine vec_ext (okW_ng oD) oC ?_ ?_ ?_
        · rw [show vv (ngV (crV W V)) 0 = -vv (crV W V) 0 from q_neg _ _, d0, c0]; grind
        · rw [show vv (ngV (crV W V)) 1 = -vv (crV W V) 1 from q_neg _ _, d1, c1]; grind
        · rw [show vv (ngV (crV W V)) 2 = -vv (crV W V) 2 from q_neg _ _, d2, c2]; grind
      have NG : ∀ w : World, Calls Try.prog 30 #[.agg #[.int .i64 (crV W V 0), .int .i64 (crV W V 1), .int .i64 (crV W V 2), .int .i64 (crV W V 3), .int .i64 (crV W V 4), .int .i64 (crV W V 5)]] w fun x w' => x = .returned (.agg #[.int .i64 (crV V W 0), .int .i64 (crV V W 1), .int .i64 (crV V W 2), .int .i64 (crV V W 3), .int .i64 (crV V W 4), .int .i64 (crV V W 5)]) ∧ Below w.heap.size w w' := by
        intro w
        have h := ref2_NegQ _ _ _ _ _ _ oD w
        rw [← eN 0 (by omega), ← eN 1 (by omega), ← eN 2 (by omega), ← eN 3 (by omega), ← eN 4 (by omega), ← eN 5 (by omega)]
        exact h
      have FL := fun w => vec_FlipM (m3 U V W) (okM_okCM oM) w
      rw [chM_ok oM, fl_eq oM] at FL
      refine cross_walk V W U (crV V W) (crV W V) (fpP (m3 U V W)) _ _ _ _ _ _ _ _ _ _ _ _ _ _ _ (dt_01 oC oV) (dt_01 oC oW) (dt_01 oU oC) ?_ S1 S2 AL (fun w => vec_CrossS sV sW hV hW w) (fun w => vec_CrossS sW sV hW hV w) NG
        (fun w => vec_Dot _ _ _ _ _ _ _ _ _ _ _ _ cC.1 cC.2.1 cC.2.2 hV.1 hV.2.1 hV.2.2 w) (fun w => vec_Dot _ _ _ _ _ _ _ _ _ _ _ _ cC.1 cC.2.1 cC.2.2 hW.1 hW.2.1 hW.2.2 w) (fun w => vec_Dot _ _ _ _ _ _ _ _ _ _ _ _ hU.1 hU.2.1 hU.2.2 cC.1 cC.2.1 cC.2.2 w)
        (fun w => vec_DetM _ (okM_okCM oM) w) FL (fun w => vec_DetM _ (okM_okCM oF) w) w
      intro e1 e2 e3 e4 e5
      obtain ⟨x1, x2⟩ := dt_in oC oV e1
      obtain ⟨y1, y2⟩ := dt_in oC oW e2
      obtain ⟨z1, z2⟩ := dt_in oU oC e3
      rw [dmE, if_pos oM] at e4
      rw [dmE, if_pos oF] at e5
      obtain ⟨m1, m2⟩ := q_de oM e4
      obtain ⟨n1, n2⟩ := q_de oF e5
      have z01 : okF 0 1 = true := by decide
      change _ = vv (crV V W) 0 * vv V 0 + vv (crV V W) 1 * vv V 1 + vv (crV V W) 2 * vv V 2 at x2
      change _ = vv (crV V W) 0 * vv W 0 + vv (crV V W) 1 * vv W 1 + vv (crV V W) 2 * vv W 2 at y2
      change _ = vv U 0 * vv (crV V W) 0 + vv U 1 * vv (crV V W) 1 + vv U 2 * vv (crV V W) 2 at z2
      change _ = vv U 0 * (vv V 1 * vv W 2 + -vv V 2 * vv W 1) + vv U 1 * (vv V 2 * vv W 0 + -vv V 0 * vv W 2) + vv U 2 * (vv V 0 * vv W 1 + -vv V 1 * vv W 0) at m2
      change _ = vv U 0 * (vv V 1 * vv W 2 + -vv W 1 * vv V 2) + vv V 0 * (vv W 1 * vv U 2 + -vv U 1 * vv W 2) + vv W 0 * (vv U 1 * vv V 2 + -vv V 1 * vv U 2) at n2
      rw [c0, c1, c2] at x2 y2 z2
      obtain ⟨a1, a2⟩ := q_inj x1 z01 (by rw [x2, q_01]; grind)
      obtain ⟨b1, b2⟩ := q_inj y1 z01 (by rw [y2, q_01]; grind)
      obtain ⟨f1, f2⟩ := q_inj m1 z1 (by rw [m2, z2])
      obtain ⟨g1, g2⟩ := q_inj n1 z1 (by rw [n2, z2]; grind)
      simp only [dmN, dmD, if_pos oM, if_pos oF]
      exact ⟨a1, a2, b1, b2, f1, f2, g1, g2⟩
    · rw [decide_eq_false h2] at S2
      exact cross_out_b V W U S1 S2 AL w
  · rw [decide_eq_false h1] at S1
    exact cross_out_a V W U S1 AL w
end Go.Proofs.Ytlijkebdaalldaa
