/-
  The nearest fraction of package frac: the choice between two neighbours.
-/
import Derived.Test.YtbckjccbihnlnaaFnr
import Derived.Deep.DeepCutAuto
namespace Go.Proofs.Ytbckjccbihnlnaa
open Go.RowKit
set_option linter.unusedVariables false
set_option linter.unusedSimpArgs false

set_option maxRecDepth 100000 in
set_option maxHeartbeats 3200000 in
theorem frac_nearer (p1 q1 r1 p2 q2 r2 x y P Q : Int) (a1 : -1000000000000000000 ≤ p1) (a2 : p1 ≤ 1000000000000000000) (b1 : 1 ≤ q1) (b2 : q1 ≤ 1000000000000000000) (c1 : 1 ≤ r1) (c2 : r1 ≤ 1000000000000000000)
    (d1 : -1000000000000000000 ≤ p2) (d2 : p2 ≤ 1000000000000000000) (e1 : 1 ≤ q2) (e2 : q2 ≤ 1000000000000000000) (f1 : 1 ≤ r2) (f2 : r2 ≤ 1000000000000000000)
    (hx : cmpI (r1 * q2) (r2 * q1) = x) (hy : cmpI (p1 * q2) (p2 * q1) = y)
    (hr : (x = -1 ∧ P = p1 ∧ Q = q1) ∨ (x = 1 ∧ P = p2 ∧ Q = q2) ∨ (x = 0 ∧ y = -1 ∧ P = p1 ∧ Q = q1) ∨ (x = 0 ∧ y = 1 ∧ P = p2 ∧ Q = q2)) (w : World) :
    Calls Try.prog 70 #[.agg #[.int .i64 p1, .int .i64 q1, .int .i64 r1], .agg #[.int .i64 p2, .int .i64 q2, .int .i64 r2]] w fun e w' =>
      e = .returned (.agg #[.int .i64 P, .int .i64 Q]) ∧ Below w.heap.size w w' := by
  have z1 := mul_bd _ _ 1000000000000000000 1000000000000000000 (absI_nn r1) (absI_le r1 (by omega) c2) (absI_nn q2) (absI_le q2 (by omega) e2)
  have z2 := mul_bd _ _ 1000000000000000000 1000000000000000000 (absI_nn r2) (absI_le r2 (by omega) f2) (absI_nn q1) (absI_le q1 (by omega) b2)
  have z3 := mul_bd _ _ 1000000000000000000 1000000000000000000 (absI_nn p1) (absI_le p1 a1 a2) (absI_nn q2) (absI_le q2 (by omega) e2)
  have z4 := mul_bd _ _ 1000000000000000000 1000000000000000000 (absI_nn p2) (absI_le p2 d1 d2) (absI_nn q1) (absI_le q1 (by omega) b2)
  have B1 := fun w => frac_order (sgB r1 q2) (sgB r2 q1) (absI r1 * absI q2) (absI r2 * absI q1) z1.1 z2.1 (by omega) w
  have B2 := fun w => frac_order (sgB p1 q2) (sgB p2 q1) (absI p1 * absI q2) (absI p2 * absI q1) z3.1 z4.1 (by omega) w
  rw [sg_mul, sg_mul, hx] at B1
  rw [sg_mul, sg_mul, hy] at B2
  clear hx hy z1 z2 z3 z4
  have dz1 : ∀ (W : World) (l : List Obj) (d : Nat), (ext W.drew l d) = (ext W l d) := fun _ _ _ => rfl
  have dz2 : ∀ (W : World) (l : List Obj) (n d : Nat), (ext (W.drewN n) l d) = (ext W l d) := fun _ _ _ _ => rfl
  have dAl := dAl; have dSt := dSt; have xC := ext_cell; have xF := ext_frozen; have xS := ext_set; have xN := ext_drewN; have xD := ext_drew; have xL := ext_lt; have xE := ext_ne; have xG := ext_nr; have xX := ext_ext; have xL1 := ext_lt1; have xL2 := ext_lt2; have xL3 := ext_lt3; have xM0 := ext_le0; have xM1 := ext_le1; have xM2 := ext_le2
  go_enter Try.func70, Try.ntmps70
  go_wp2_with fail
  go_cut [5, 6] (fun s5 s6 wx => ∃ g5 g6 : Nat, s5 = .pointer (some ⟨g5, 0, none⟩) ∧ s6 = .pointer (some ⟨g6, 0, none⟩) ∧ (wx.cell? ⟨w.heap.size, 0, none⟩ = some (.int .i64 p1) ∧ wx.cell? ⟨w.heap.size, 1, none⟩ = some (.int .i64 q1) ∧ wx.cell? ⟨w.heap.size, 2, none⟩ = some (.int .i64 r1) ∧ wx.cell? ⟨w.heap.size + 1, 0, none⟩ = some (.int .i64 p2) ∧ wx.cell? ⟨w.heap.size + 1, 1, none⟩ = some (.int .i64 q2) ∧ wx.cell? ⟨w.heap.size + 1, 2, none⟩ = some (.int .i64 r2) ∧ wx.cell? ⟨w.heap.size + 1 + 1, 0, none⟩ = some (.int .i64 0) ∧ wx.cell? ⟨w.heap.size + 1 + 1, 1, none⟩ = some (.int .i64 0) ∧ wx.cell? ⟨g5, 0, none⟩ = some (.int .i64 p1) ∧ wx.cell? ⟨g5, 1, none⟩ = some (.int .i64 q1) ∧ wx.cell? ⟨g6, 0, none⟩ = some (.int .i64 p2) ∧ wx.cell? ⟨g6, 1, none⟩ = some (.int .i64 q2) ∧ wx.frozen? ⟨w.heap.size + 1 + 1, 0, none⟩ = false ∧ wx.frozen? ⟨w.heap.size + 1 + 1, 1, none⟩ = false) ∧ w.heap.size + 1 + 1 < g5 ∧ w.heap.size + 1 + 1 < g6 ∧ g5 < wx.heap.size ∧ g6 < wx.heap.size ∧ Below w.heap.size w wx)
  case first =>
    clear hr B1 B2
    go_region
    all_goals (try go_wp2_with fail)
    all_goals go_meet
    all_goals refine ⟨_, _, rfl, rfl, by (simp (maxDischargeDepth := 8) [go_sem, World.cell?_alloc_past, ltk2, ltk3, ltk4, ltk5, ltk6, ltk7, ltk8, ltk9, *]), by (simp <;> omega), by (simp <;> omega), by (simp <;> omega), by (simp <;> omega), by (repeat (first | with_reducible exact b0 _ | (with_reducible refine bext ?_ _ _) | (with_reducible refine below_drewN ?_ _) | (with_reducible refine Below.drew ?_) | (with_reducible refine bal ?_ _)))⟩
  case rest =>
    obtain ⟨g5, g6, rfl, rfl, ⟨k0, k1, k2, k3, k4, k5, k6, k7, k8, k9, l0, l1, m0, m1⟩, s1, s2, s3, s4, hB⟩ := hcut
    have u1 : w.heap.size < wc.heap.size := by omega
    have u2 : w.heap.size + 1 < wc.heap.size := by omega
    have u3 : w.heap.size + 1 + 1 < wc.heap.size := by omega
    have va0 : g5 < wc.heap.size + 1 := by omega
    have vb0 : g5 < wc.heap.size + 1 + 1 := by omega
    have vc0 : g5 < wc.heap.size + 1 + 1 + 1 := by omega
    have va1 : g6 < wc.heap.size + 1 := by omega
    have vb1 : g6 < wc.heap.size + 1 + 1 := by omega
    have vc1 : g6 < wc.heap.size + 1 + 1 + 1 := by omega
    have va2 : w.heap.size < wc.heap.size + 1 := by omega
    have vb2 : w.heap.size < wc.heap.size + 1 + 1 := by omega
    have vc2 : w.heap.size < wc.heap.size + 1 + 1 + 1 := by omega
    have va3 : w.heap.size + 1 < wc.heap.size + 1 := by omega
    have vb3 : w.heap.size + 1 < wc.heap.size + 1 + 1 := by omega
    have vc3 : w.heap.size + 1 < wc.heap.size + 1 + 1 + 1 := by omega
    have va4 : w.heap.size + 1 + 1 < wc.heap.size + 1 := by omega
    have vb4 : w.heap.size + 1 + 1 < wc.heap.size + 1 + 1 := by omega
    have vc4 : w.heap.size + 1 + 1 < wc.heap.size + 1 + 1 + 1 := by omega
    rcases hr with ⟨rfl, hP, hQ⟩ | ⟨rfl, hP, hQ⟩ | ⟨rfl, rfl, hP, hQ⟩ | ⟨rfl, rfl, hP, hQ⟩
    · have HP := Lib.hid hP
      have HQ := Lib.hid hQ
      clear hP hQ
      go_wp2_with fail
      go_region_held3 (fun w' => w'.cell? ⟨w.heap.size, 0, none⟩ = some (.int .i64 p1) ∧ w'.cell? ⟨w.heap.size, 1, none⟩ = some (.int .i64 q1) ∧ w'.cell? ⟨w.heap.size, 2, none⟩ = some (.int .i64 r1) ∧ w'.cell? ⟨w.heap.size + 1, 0, none⟩ = some (.int .i64 p2) ∧ w'.cell? ⟨w.heap.size + 1, 1, none⟩ = some (.int .i64 q2) ∧ w'.cell? ⟨w.heap.size + 1, 2, none⟩ = some (.int .i64 r2)) (simp (maxDischargeDepth := 8) [go_sem, World.cell?_alloc_past, ltk2, ltk3, ltk4, ltk5, ltk6, ltk7, ltk8, ltk9, *])
      ((first
        | (go_at_call 79; refine (frac_times _ _ (by omega) (by omega) (by omega) (by omega) _).mono ?_; rintro e w' ⟨rfl, c3, rfl⟩)
        | (go_at_call 78; with_reducible refine (B1 _).mono ?_; rintro e w' ⟨rfl, hb⟩; obtain ⟨l, d, rfl⟩ := toExt hb; clear hb)))
      all_goals (try go_wp2_with fail)
      all_goals (try go_wp2)
      all_goals refine bodyPost_ret (by simp [results, Try.results70, go_sem, ext_cell, World.cell?_alloc_past, ltk2, ltk3, ltk4, ltk5, ltk6, ltk7, ltk8, ltk9, *]; try rfl) rfl ?_
      all_goals exact ⟨by rw [HP.out, HQ.out], by (repeat (first | with_reducible exact hB | (with_reducible refine bext ?_ _ _) | (with_reducible refine below_drewN ?_ _) | (with_reducible refine Below.drew ?_) | (with_reducible refine bal ?_ _) | (with_reducible refine bset ?_ (by first | omega | (simp <;> omega)) _)))⟩
    · have HP := Lib.hid hP
      have HQ := Lib.hid hQ
      clear hP hQ
      go_wp2_with fail
      go_region_held3 (fun w' => w'.cell? ⟨w.heap.size, 0, none⟩ = some (.int .i64 p1) ∧ w'.cell? ⟨w.heap.size, 1, none⟩ = some (.int .i64 q1) ∧ w'.cell? ⟨w.heap.size, 2, none⟩ = some (.int .i64 r1) ∧ w'.cell? ⟨w.heap.size + 1, 0, none⟩ = some (.int .i64 p2) ∧ w'.cell? ⟨w.heap.size + 1, 1, none⟩ = some (.int .i64 q2) ∧ w'.cell? ⟨w.heap.size + 1, 2, none⟩ = some (.int .i64 r2)) (simp (maxDischargeDepth := 8) [go_sem, World.cell?_alloc_past, ltk2, ltk3, ltk4, ltk5, ltk6, ltk7, ltk8, ltk9, *])
      ((first
        | (go_at_call 79; refine (frac_times _ _ (by omega) (by omega) (by omega) (by omega) _).mono ?_; rintro e w' ⟨rfl, c3, rfl⟩)
        | (go_at_call 78; with_reducible refine (B1 _).mono ?_; rintro e w' ⟨rfl, hb⟩; obtain ⟨l, d, rfl⟩ := toExt hb; clear hb)))
      all_goals (try go_wp2_with fail)
      all_goals (try go_wp2)
      all_goals refine bodyPost_ret (by simp [results, Try.results70, go_sem, ext_cell, World.cell?_alloc_past, ltk2, ltk3, ltk4, ltk5, ltk6, ltk7, ltk8, ltk9, *]; try rfl) rfl ?_
      all_goals exact ⟨by rw [HP.out, HQ.out], by (repeat (first | with_reducible exact hB | (with_reducible refine bext ?_ _ _) | (with_reducible refine below_drewN ?_ _) | (with_reducible refine Below.drew ?_) | (with_reducible refine bal ?_ _) | (with_reducible refine bset ?_ (by first | omega | (simp <;> omega)) _)))⟩
    · have HP := Lib.hid hP
      have HQ := Lib.hid hQ
      clear hP hQ
      go_wp2_with fail
      go_region_held3 (fun w' => w'.cell? ⟨w.heap.size, 0, none⟩ = some (.int .i64 p1) ∧ w'.cell? ⟨w.heap.size, 1, none⟩ = some (.int .i64 q1) ∧ w'.cell? ⟨w.heap.size, 2, none⟩ = some (.int .i64 r1) ∧ w'.cell? ⟨w.heap.size + 1, 0, none⟩ = some (.int .i64 p2) ∧ w'.cell? ⟨w.heap.size + 1, 1, none⟩ = some (.int .i64 q2) ∧ w'.cell? ⟨w.heap.size + 1, 2, none⟩ = some (.int .i64 r2)) (simp (maxDischargeDepth := 8) [go_sem, World.cell?_alloc_past, ltk2, ltk3, ltk4, ltk5, ltk6, ltk7, ltk8, ltk9, *])
      ((first
        | (go_at_call 79; refine (frac_times _ _ (by omega) (by omega) (by omega) (by omega) _).mono ?_; rintro e w' ⟨rfl, c3, rfl⟩)
        | (go_at_call 78; with_reducible refine (B1 _).mono ?_; rintro e w' ⟨rfl, hb⟩; obtain ⟨l, d, rfl⟩ := toExt hb; clear hb)))
      go_wp2_with fail
      go_region_held3 (fun w' => w'.cell? ⟨g5, 0, none⟩ = some (.int .i64 p1) ∧ w'.cell? ⟨g5, 1, none⟩ = some (.int .i64 q1) ∧ w'.cell? ⟨g6, 0, none⟩ = some (.int .i64 p2) ∧ w'.cell? ⟨g6, 1, none⟩ = some (.int .i64 q2)) (simp (maxDischargeDepth := 8) [go_sem, World.cell?_alloc_past, ltk2, ltk3, ltk4, ltk5, ltk6, ltk7, ltk8, ltk9, *])
      ((first
        | (go_at_call 79; refine (frac_times _ _ (by omega) (by omega) (by omega) (by omega) _).mono ?_; rintro e w' ⟨rfl, c3, rfl⟩)
        | (go_at_call 78; with_reducible refine (B2 _).mono ?_; rintro e w' ⟨rfl, hb⟩; obtain ⟨l, d, rfl⟩ := toExt hb; clear hb)))
      all_goals (try go_wp2_with fail)
      all_goals (try go_wp2)
      all_goals refine bodyPost_ret (by simp [results, Try.results70, go_sem, ext_cell, World.cell?_alloc_past, ltk2, ltk3, ltk4, ltk5, ltk6, ltk7, ltk8, ltk9, *]; try rfl) rfl ?_
      all_goals exact ⟨by rw [HP.out, HQ.out], by (repeat (first | with_reducible exact hB | (with_reducible refine bext ?_ _ _) | (with_reducible refine below_drewN ?_ _) | (with_reducible refine Below.drew ?_) | (with_reducible refine bal ?_ _) | (with_reducible refine bset ?_ (by first | omega | (simp <;> omega)) _)))⟩
    · have HP := Lib.hid hP
      have HQ := Lib.hid hQ
      clear hP hQ
      go_wp2_with fail
      go_region_held3 (fun w' => w'.cell? ⟨w.heap.size, 0, none⟩ = some (.int .i64 p1) ∧ w'.cell? ⟨w.heap.size, 1, none⟩ = some (.int .i64 q1) ∧ w'.cell? ⟨w.heap.size, 2, none⟩ = some (.int .i64 r1) ∧ w'.cell? ⟨w.heap.size + 1, 0, none⟩ = some (.int .i64 p2) ∧ w'.cell? ⟨w.heap.size + 1, 1, none⟩ = some (.int .i64 q2) ∧ w'.cell? ⟨w.heap.size + 1, 2, none⟩ = some (.int .i64 r2)) (simp (maxDischargeDepth := 8) [go_sem, World.cell?_alloc_past, ltk2, ltk3, ltk4, ltk5, ltk6, ltk7, ltk8, ltk9, *])
      ((first
        | (go_at_call 79; refine (frac_times _ _ (by omega) (by omega) (by omega) (by omega) _).mono ?_; rintro e w' ⟨rfl, c3, rfl⟩)
        | (go_at_call 78; with_reducible refine (B1 _).mono ?_; rintro e w' ⟨rfl, hb⟩; obtain ⟨l, d, rfl⟩ := toExt hb; clear hb)))
      go_wp2_with fail
      go_region_held3 (fun w' => w'.cell? ⟨g5, 0, none⟩ = some (.int .i64 p1) ∧ w'.cell? ⟨g5, 1, none⟩ = some (.int .i64 q1) ∧ w'.cell? ⟨g6, 0, none⟩ = some (.int .i64 p2) ∧ w'.cell? ⟨g6, 1, none⟩ = some (.int .i64 q2)) (simp (maxDischargeDepth := 8) [go_sem, World.cell?_alloc_past, ltk2, ltk3, ltk4, ltk5, ltk6, ltk7, ltk8, ltk9, *])
      ((first
        | (go_at_call 79; refine (frac_times _ _ (by omega) (by omega) (by omega) (by omega) _).mono ?_; rintro e w' ⟨rfl, c3, rfl⟩)
        | (go_at_call 78; with_reducible refine (B2 _).mono ?_; rintro e w' ⟨rfl, hb⟩; obtain ⟨l, d, rfl⟩ := toExt hb; clear hb)))
      all_goals (try go_wp2_with fail)
      all_goals (try go_wp2)
      all_goals refine bodyPost_ret (by simp [results, Try.results70, go_sem, ext_cell, World.cell?_alloc_past, ltk2, ltk3, ltk4, ltk5, ltk6, ltk7, ltk8, ltk9, *]; try rfl) rfl ?_
      all_goals exact ⟨by rw [HP.out, HQ.out], by (repeat (first | with_reducible exact hB | (with_reducible refine bext ?_ _ _) | (with_reducible refine below_drewN ?_ _) | (with_reducible refine Below.drew ?_) | (with_reducible refine bal ?_ _) | (with_reducible refine bset ?_ (by first | omega | (simp <;> omega)) _)))⟩
end Go.Proofs.Ytbckjccbihnlnaa
