/-
  VecKept, for all vectors, axes and parameters.
-/
import Derived.Test.YtlijkebdaalldaaKu
import Derived.Test.YtlijkebdaalldaaWrt
import Derived.Test.YtlijkebdaalldaaWke
import Derived.Test.YtlijkebdaalldaaWsm
import Derived.Test.YtlijkebdaalldaaWla
import Derived.Test.YtlijkebdaalldaaMD
import Derived.Test.YtlijkebdaalldaaFs
namespace Go.Proofs.Ytlijkebdaalldaa
open Go.RowKit
set_option linter.unusedVariables false
set_option linter.unusedSimpArgs false

/-- Two vectors and a fraction as fourteen numbers. -/
def ls (V W : Nat → Int) (n d : Int) : Nat → Int
  | 0 => V 0
  | 1 => V 1
  | 2 => V 2
  | 3 => V 3
  | 4 => V 4
  | 5 => V 5
  | 6 => W 0
  | 7 => W 1
  | 8 => W 2
  | 9 => W 3
  | 10 => W 4
  | 11 => W 5
  | 12 => n
  | _ => d
theorem ref_CheckC (n d : Int) (h : okC n d) (w : World) : Calls Try.prog 59 #[.agg #[.int .i64 n, .int .i64 d]] w fun x w' => x = .returned (.int .i64 (if okF n d = true then 0 else 8)) ∧ Below w.heap.size w w' := ref_Check n d h.1 h.2.1 h.2.2.1 h.2.2.2 w
theorem small_ls (V W : Nat → Int) (n d : Int) (hV : okCW V) (hW : okCW W) (ht : okC n d) (w : World) :
    Calls Try.prog 29 #[.agg #[.int .i64 (V 0), .int .i64 (V 1), .int .i64 (V 2), .int .i64 (V 3), .int .i64 (V 4), .int .i64 (V 5)], .agg #[.int .i64 (W 0), .int .i64 (W 1), .int .i64 (W 2), .int .i64 (W 3), .int .i64 (W 4), .int .i64 (W 5)], .agg #[.int .i64 n, .int .i64 d]] w fun x w' => x = .returned (.bool (decide (smL (ls V W n d)))) ∧ Below w.heap.size w w' := by
  refine law_small (ls V W n d) (fun i hi w => ?_) w
  rcases (show i = 0 ∨ i = 1 ∨ i = 2 ∨ i = 3 ∨ i = 4 ∨ i = 5 ∨ i = 6 by omega) with rfl | rfl | rfl | rfl | rfl | rfl | rfl
  · exact ref_CheckC _ _ hV.1 w
  · exact ref_CheckC _ _ hV.2.1 w
  · exact ref_CheckC _ _ hV.2.2 w
  · exact ref_CheckC _ _ hW.1 w
  · exact ref_CheckC _ _ hW.2.1 w
  · exact ref_CheckC _ _ hW.2.2 w
  · exact ref_CheckC _ _ ht w
theorem smF_sf {n d : Int} (h : smF n d) : SF n d 1000 20 := ⟨h.1, by have := h.2; omega, by have := h.2; omega, h.2.2.2⟩
theorem sm_vec {V W : Nat → Int} {n d : Int} (h : smL (ls V W n d)) : okW V ∧ okW W ∧ okF n d = true := by
  refine ⟨okW_of (h 0 (by omega)).1 (h 1 (by omega)).1 (h 2 (by omega)).1, okW_of (h 3 (by omega)).1 (h 4 (by omega)).1 (h 5 (by omega)).1, (h 6 (by omega)).1⟩
set_option maxHeartbeats 1600000 in
theorem kept_all (V W : Nat → Int) (axis n d : Int) (hV : okCW V) (hW : okCW W) (ht : okC n d) (w : World) :
    Calls Try.prog 5 #[.agg #[.int .i64 (V 0), .int .i64 (V 1), .int .i64 (V 2), .int .i64 (V 3), .int .i64 (V 4), .int .i64 (V 5)], .agg #[.int .i64 (W 0), .int .i64 (W 1), .int .i64 (W 2), .int .i64 (W 3), .int .i64 (W 4), .int .i64 (W 5)], .int .i64 axis, .agg #[.int .i64 n, .int .i64 d]] w fun x w' => x = .returned (.bool true) ∧ Below w.heap.size w w' := by
  have SM := fun w => small_ls V W n d hV hW ht w
  have AL := fun w => law_alive w
  by_cases hs : smL (ls V W n d)
  · rw [decide_eq_true hs] at SM
    by_cases a1 : axis < 0
    · exact kept_out_b V W axis n d SM AL (eq_true a1) w
    by_cases a2 : 2 < axis
    · exact kept_out_c V W axis n d SM AL (eq_false a1) (eq_true a2) w
    by_cases a3 : 20 < n
    · exact kept_out_d V W axis n d SM AL (eq_false a1) (eq_false a2) (eq_true a3) w
    by_cases a4 : n < -20
    · exact kept_out_e V W axis n d SM AL (eq_false a1) (eq_false a2) (eq_false a3) (eq_true a4) w
    obtain ⟨oV, oW, ot⟩ := sm_vec hs
    have ha : ¬ (axis < 0 ∨ 2 < axis) := by omega
    have hp : pr_E n d = 0 := sf_turn ⟨ot, by omega, by omega, by have := (hs 6 (by omega)).2.2.2; have e : ls V W n d (6 * 2 + 1) = d := rfl; rw [e] at this; omega⟩
    obtain ⟨c, s, h1, _, _, _, oT, vT⟩ := q_tm ot ha hp
    have hax : axis.toNat < 3 := by omega
    have rT := rot_tm hax h1 vT
    have eT := (tm_ok axis n d ot ha hp).2
    have oF := okCM_fl oT
    have CT := fun w => vec_TurnM axis n d ht w
    rw [eT] at CT
    have cP : okCW (apR (tmR axis n d) V) := okCW_ap
    have cQ : okCW (apR (tmR axis n d) W) := okCW_ap
    refine kept_walk V W (tmR axis n d) (apR (tmR axis n d) V) (apR (tmR axis n d) W) (flR (tmR axis n d)) (apR (flR (tmR axis n d)) (apR (tmR axis n d) V)) axis n d _ _ _ _ _ _ _ _ _ _ _ _ (eq_false a1) (eq_false a2) (eq_false a3) (eq_false a4)
      (is_01 oT) ?_ SM AL CT (fun w => vec_IsM _ (okM_okCM oT) w) (fun w => vec_ApplyM _ V (okM_okCM oT) hV w) (fun w => vec_ApplyM _ W (okM_okCM oT) hW w)
      (fun w => vec_Dot _ _ _ _ _ _ _ _ _ _ _ _ hV.1 hV.2.1 hV.2.2 hW.1 hW.2.1 hW.2.2 w) (fun w => vec_Dot _ _ _ _ _ _ _ _ _ _ _ _ cP.1 cP.2.1 cP.2.2 cQ.1 cQ.2.1 cQ.2.2 w)
      (fun w => vec_FlipM _ (okM_okCM oT) w) (fun w => vec_ApplyM _ _ (okM_okCM oF) cP w) w
    intro e1 e2 e3 e4 e5 e6 e7
    obtain ⟨oP, vP⟩ := q_ap oT oV e2
    obtain ⟨oQ, vQ⟩ := q_ap oT oW e3
    obtain ⟨oU, vU⟩ := q_ap oF oP e7
    obtain ⟨x1, x2⟩ := dt_in oV oW e4
    obtain ⟨y1, y2⟩ := dt_in oP oQ e5
    have p0 := vP 0 (by omega)
    have p1 := vP 1 (by omega)
    have p2 := vP 2 (by omega)
    have q0 := vQ 0 (by omega)
    have q1 := vQ 1 (by omega)
    have q2 := vQ 2 (by omega)
    have u0 := vU 0 (by omega)
    have u1 := vU 1 (by omega)
    have u2 := vU 2 (by omega)
    rw [fl_eq oT, q_fl _ 0 0 (by omega) (by omega), q_fl _ 0 1 (by omega) (by omega), q_fl _ 0 2 (by omega) (by omega)] at u0
    rw [fl_eq oT, q_fl _ 1 0 (by omega) (by omega), q_fl _ 1 1 (by omega) (by omega), q_fl _ 1 2 (by omega) (by omega)] at u1
    rw [fl_eq oT, q_fl _ 2 0 (by omega) (by omega), q_fl _ 2 1 (by omega) (by omega), q_fl _ 2 2 (by omega) (by omega)] at u2
    rw [vT 0 0 (by omega) (by omega), vT 0 1 (by omega) (by omega), vT 0 2 (by omega) (by omega)] at p0 q0
    rw [vT 1 0 (by omega) (by omega), vT 1 1 (by omega) (by omega), vT 1 2 (by omega) (by omega)] at p1 q1
    rw [vT 2 0 (by omega) (by omega), vT 2 1 (by omega) (by omega), vT 2 2 (by omega) (by omega)] at p2 q2
    rw [vT 0 0 (by omega) (by omega), vT 1 0 (by omega) (by omega), vT 2 0 (by omega) (by omega)] at u0
    rw [vT 0 1 (by omega) (by omega), vT 1 1 (by omega) (by omega), vT 2 1 (by omega) (by omega)] at u1
    rw [vT 0 2 (by omega) (by omega), vT 1 2 (by omega) (by omega), vT 2 2 (by omega) (by omega)] at u2
    have dd := rot_dot hax h1 p0 p1 p2 q0 q1 q2
    obtain ⟨b0, b1, b2⟩ := rot_back hax h1 p0 p1 p2 u0 u1 u2
    obtain ⟨m1, m2⟩ := q_inj x1 y1 (x2.trans (dd.trans y2.symm))
    rw [fl_eq oT] at oU ⊢
    exact ⟨q_is oT e1 rT, m1, m2, vec_ext oU oV b0 b1 b2⟩
  · rw [decide_eq_false hs] at SM
    exact kept_out_a V W axis n d SM AL w
end Go.Proofs.Ytlijkebdaalldaa
