/-
  VecCross, walked: its calls by contracts.
-/
import Derived.Lib.Hide
import Derived.Test.YtlijkebdaalldaaKu
import Derived.Test.YtlijkebdaalldaaMA
import Derived.Test.YtlijkebdaalldaaWlo
import Derived.Deep.DeepCutAuto
namespace Go.Proofs.Ytlijkebdaalldaa
open Go.RowKit
set_option linter.unusedVariables false
set_option linter.unusedSimpArgs false

def m3 (U V W : Nat → Int) : Nat → Int
  | 0 => U 0
  | 1 => U 1
  | 2 => U 2
  | 3 => U 3
  | 4 => U 4
  | 5 => U 5
  | 6 => V 0
  | 7 => V 1
  | 8 => V 2
  | 9 => V 3
  | 10 => V 4
  | 11 => V 5
  | 12 => W 0
  | 13 => W 1
  | 14 => W 2
  | 15 => W 3
  | 16 => W 4
  | _ => W 5
set_option maxRecDepth 100000 in
set_option maxHeartbeats 16000000 in
theorem cross_out_a (V W U : Nat → Int) (H : ∀ w : World, Calls Try.prog 29 #[.agg #[.int .i64 (V 0), .int .i64 (V 1), .int .i64 (V 2), .int .i64 (V 3), .int .i64 (V 4), .int .i64 (V 5)], .agg #[.int .i64 (W 0), .int .i64 (W 1), .int .i64 (W 2), .int .i64 (W 3), .int .i64 (W 4), .int .i64 (W 5)], .agg #[.int .i64 1, .int .i64 1]] w fun x w' => x = .returned (.bool false) ∧ Below w.heap.size w w') (HA : ∀ w : World, Calls Try.prog 22 #[] w fun x w' => x = .returned (.bool true) ∧ Below w.heap.size w w') (w : World) :
    Calls Try.prog 6 #[.agg #[.int .i64 (V 0), .int .i64 (V 1), .int .i64 (V 2), .int .i64 (V 3), .int .i64 (V 4), .int .i64 (V 5)], .agg #[.int .i64 (W 0), .int .i64 (W 1), .int .i64 (W 2), .int .i64 (W 3), .int .i64 (W 4), .int .i64 (W 5)], .agg #[.int .i64 (U 0), .int .i64 (U 1), .int .i64 (U 2), .int .i64 (U 3), .int .i64 (U 4), .int .i64 (U 5)]] w fun x w' => x = .returned (.bool true) ∧ Below w.heap.size w w' := by
  have K0 := Lib.hid H
  have AL := Lib.hid HA
  clear H HA
  have dAl := dAl; have dSt := dSt
  go_enter Try.func6, Try.ntmps6
  go_upto_region 1 with fail
  refine opq (fun wx => Cs wx (w.heap.size) 6 V ∧ Cs wx (w.heap.size + 1) 6 W ∧ Cs wx (w.heap.size + 1 + 1) 6 U ∧ w.heap.size + 1 + 1 < wx.heap.size ∧ Below w.heap.size w wx) ?_ ?_
  · exact ⟨cs_alloc _ (cs_alloc _ (cs_new rfl (arrV V)) (by simp)) (by simp <;> omega), cs_alloc _ (cs_new (by simp) (arrV W)) (by simp), cs_new (by simp) (arrV U), by simp, kb⟩
  rintro w0 ⟨cV, cW, cU, zs, HBa⟩
  have AC3 := K0.out
  refine wp_region_held_drew (S := (fun w' => Below w0.heap.size w0 w')) (by kernel_rfl) ?_ (fun hHeld => ?_)
  · exact Below.drew (Below.refl _ _)
  refine take6v 0 (.tmp 3) w.heap.size V rfl rfl (by kernel_rfl) (by kernel_rfl) (by kernel_rfl) (fun _ _ _ h => h) (by rfl) rfl (fun w k => cs_below cV k (by omega)) (by assumption) ?_
  try simp only [Act.put, List.setIfInBounds_toArray, List.set_cons_zero, List.set_cons_succ, fq6, fq2]
  refine take6v 1 (.tmp 4) (w.heap.size + 1) W rfl rfl (by kernel_rfl) (by kernel_rfl) (by kernel_rfl) (fun _ _ _ h => h) (by rfl) rfl (fun w k => cs_below cW k (by omega)) (by assumption) ?_
  try simp only [Act.put, List.setIfInBounds_toArray, List.set_cons_zero, List.set_cons_succ, fq6, fq2]
  refine wpAnyH_ready (rs := [2]) (by kernel_rfl) (by simp) ?_
  refine AllReadyH.cons (o := _) rfl (fun K hK => ?_) AllReadyH.nil
  go_simp
  with_reducible refine ((ref_Of 1) _).mono ?_
  rintro e v1 ⟨rfl, hb⟩
  replace hHeld := Below.trans hHeld (Below.mono hb (Below.size hHeld))
  clear hb
  (try go_wp2_with fail)
  refine hK.out _ _ ?_ (fun hHeld2 => ?_)
  · exact kg
  clear hK K hHeld
  have hHeld := hHeld2
  clear hHeld2
  try simp only [Act.put, List.setIfInBounds_toArray, List.set_cons_zero, List.set_cons_succ, fq6, fq2]
  refine wpAnyH_ready (rs := [3]) (by kernel_rfl) (by simp) ?_
  refine AllReadyH.cons (o := _) rfl (fun K hK => ?_) AllReadyH.nil
  go_simp
  with_reducible refine (AC3 _).mono ?_
  rintro e v2 ⟨rfl, hb⟩
  replace hHeld := Below.trans hHeld (Below.mono hb (Below.size hHeld))
  clear hb
  (try go_wp2_with fail)
  refine hK.out _ _ ?_ (fun hHeld2 => ?_)
  · exact kg
  clear hK K hHeld
  have hHeld := hHeld2
  clear hHeld2
  try simp only [Act.put, List.setIfInBounds_toArray, List.set_cons_zero, List.set_cons_succ, fq6, fq2]
  refine wpAnyH_ready (rs := [4]) (by kernel_rfl) (by simp) ?_
  refine AllReadyH.cons (o := _) rfl (fun K hK => ?_) AllReadyH.nil
  go_simp
  refine hK.out _ _ ?_ (fun hHeld2 => ?_)
  · exact kg
  clear hK K hHeld
  have hHeld := hHeld2
  clear hHeld2
  try simp only [Act.put, List.setIfInBounds_toArray, List.set_cons_zero, List.set_cons_succ, fq6, fq2]
  refine wpAnyH_take (i := 5) (oi := _) (v := ?_) rfl (by kernel_rfl) (by kernel_rfl) (by kernel_rfl) (fun _ _ _ h => h) (Or.inl ⟨by rfl, ?_⟩) (by assumption) ?_
  rotate_left
  · (intro w hSw; (try dsimp only at hSw); go_simp; (try with_reducible rfl))
  try simp only [Act.put, List.setIfInBounds_toArray, List.set_cons_zero, List.set_cons_succ, fq6, fq2]
  refine wpAnyH_take (i := 6) (oi := _) (v := undef) rfl (by kernel_rfl) (by kernel_rfl) (by kernel_rfl) (fun _ _ _ h => h) (Or.inr ⟨by rfl, rfl⟩) (by assumption) ?_
  try simp only [Act.put, List.setIfInBounds_toArray, List.set_cons_zero, List.set_cons_succ, fq6, fq2]
  refine wpAnyH_take (i := 7) (oi := _) (v := undef) rfl (by kernel_rfl) (by kernel_rfl) (by kernel_rfl) (fun _ _ _ h => h) (Or.inr ⟨by rfl, rfl⟩) (by assumption) ?_
  try simp only [Act.put, List.setIfInBounds_toArray, List.set_cons_zero, List.set_cons_succ, fq6, fq2]
  refine wpAnyH_take (i := 8) (oi := _) (v := undef) rfl (by kernel_rfl) (by kernel_rfl) (by kernel_rfl) (fun _ _ _ h => h) (Or.inr ⟨by rfl, rfl⟩) (by assumption) ?_
  try simp only [Act.put, List.setIfInBounds_toArray, List.set_cons_zero, List.set_cons_succ, fq6, fq2]
  refine wpAnyH_take (i := 9) (oi := _) (v := undef) rfl (by kernel_rfl) (by kernel_rfl) (by kernel_rfl) (fun _ _ _ h => h) (Or.inr ⟨by rfl, rfl⟩) (by assumption) ?_
  try simp only [Act.put, List.setIfInBounds_toArray, List.set_cons_zero, List.set_cons_succ, fq6, fq2]
  refine wpAnyH_take (i := 10) (oi := _) (v := undef) rfl (by kernel_rfl) (by kernel_rfl) (by kernel_rfl) (fun _ _ _ h => h) (Or.inr ⟨by rfl, rfl⟩) (by assumption) ?_
  try simp only [Act.put, List.setIfInBounds_toArray, List.set_cons_zero, List.set_cons_succ, fq6, fq2]
  refine wpAnyH_ready (rs := [11]) (by kernel_rfl) (by simp) ?_
  refine AllReadyH.cons (o := _) rfl (fun K hK => ?_) AllReadyH.nil
  go_simp
  refine hK.out _ _ ?_ (fun hHeld2 => ?_)
  · exact kg
  clear hK K hHeld
  have hHeld := hHeld2
  clear hHeld2
  try simp only [Act.put, List.setIfInBounds_toArray, List.set_cons_zero, List.set_cons_succ, fq6, fq2]
  refine wpAnyH_done (by kernel_rfl) ?_ _

  have hb : Below w0.heap.size w0 v2 := hHeld
  clear hHeld AC3
  replace cV := cs_below cV hb (by omega)
  replace cW := cs_below cW hb (by omega)
  replace cU := cs_below cU hb (by omega)
  replace HBa := HBa.trans (hb.mono (by omega))
  replace zs := Nat.lt_of_lt_of_le zs hb.size
  clear hb
  go_wp2_with fail
  with_reducible refine (AL.out _).mono ?_
  rintro e z1 ⟨rfl, hb⟩
  go_wp2_with fail
  go_ret
  exact ⟨rfl, HBa.trans (hb.mono (by omega))⟩
set_option maxRecDepth 100000 in
set_option maxHeartbeats 16000000 in
theorem cross_out_b (V W U : Nat → Int) (H : ∀ w : World, Calls Try.prog 29 #[.agg #[.int .i64 (V 0), .int .i64 (V 1), .int .i64 (V 2), .int .i64 (V 3), .int .i64 (V 4), .int .i64 (V 5)], .agg #[.int .i64 (W 0), .int .i64 (W 1), .int .i64 (W 2), .int .i64 (W 3), .int .i64 (W 4), .int .i64 (W 5)], .agg #[.int .i64 1, .int .i64 1]] w fun x w' => x = .returned (.bool true) ∧ Below w.heap.size w w') (H2 : ∀ w : World, Calls Try.prog 29 #[.agg #[.int .i64 (U 0), .int .i64 (U 1), .int .i64 (U 2), .int .i64 (U 3), .int .i64 (U 4), .int .i64 (U 5)], .agg #[.int .i64 (U 0), .int .i64 (U 1), .int .i64 (U 2), .int .i64 (U 3), .int .i64 (U 4), .int .i64 (U 5)], .agg #[.int .i64 1, .int .i64 1]] w fun x w' => x = .returned (.bool false) ∧ Below w.heap.size w w') (HA : ∀ w : World, Calls Try.prog 22 #[] w fun x w' => x = .returned (.bool true) ∧ Below w.heap.size w w') (w : World) :
    Calls Try.prog 6 #[.agg #[.int .i64 (V 0), .int .i64 (V 1), .int .i64 (V 2), .int .i64 (V 3), .int .i64 (V 4), .int .i64 (V 5)], .agg #[.int .i64 (W 0), .int .i64 (W 1), .int .i64 (W 2), .int .i64 (W 3), .int .i64 (W 4), .int .i64 (W 5)], .agg #[.int .i64 (U 0), .int .i64 (U 1), .int .i64 (U 2), .int .i64 (U 3), .int .i64 (U 4), .int .i64 (U 5)]] w fun x w' => x = .returned (.bool true) ∧ Below w.heap.size w w' := by
  have K0 := Lib.hid H
  have K1 := Lib.hid H2
  have AL := Lib.hid HA
  clear H HA H2
  have dAl := dAl; have dSt := dSt
  go_enter Try.func6, Try.ntmps6
  go_upto_region 1 with fail
  refine opq (fun wx => Cs wx (w.heap.size) 6 V ∧ Cs wx (w.heap.size + 1) 6 W ∧ Cs wx (w.heap.size + 1 + 1) 6 U ∧ w.heap.size + 1 + 1 < wx.heap.size ∧ Below w.heap.size w wx) ?_ ?_
  · exact ⟨cs_alloc _ (cs_alloc _ (cs_new rfl (arrV V)) (by simp)) (by simp <;> omega), cs_alloc _ (cs_new (by simp) (arrV W)) (by simp), cs_new (by simp) (arrV U), by simp, kb⟩
  rintro w0 ⟨cV, cW, cU, zs, HBa⟩
  have AC3 := K0.out
  have AC9 := K1.out
  refine wp_region_held_drew (S := (fun w' => Below w0.heap.size w0 w')) (by kernel_rfl) ?_ (fun hHeld => ?_)
  · exact Below.drew (Below.refl _ _)
  refine take6v 0 (.tmp 3) w.heap.size V rfl rfl (by kernel_rfl) (by kernel_rfl) (by kernel_rfl) (fun _ _ _ h => h) (by rfl) rfl (fun w k => cs_below cV k (by omega)) (by assumption) ?_
  try simp only [Act.put, List.setIfInBounds_toArray, List.set_cons_zero, List.set_cons_succ, fq6, fq2]
  refine take6v 1 (.tmp 4) (w.heap.size + 1) W rfl rfl (by kernel_rfl) (by kernel_rfl) (by kernel_rfl) (fun _ _ _ h => h) (by rfl) rfl (fun w k => cs_below cW k (by omega)) (by assumption) ?_
  try simp only [Act.put, List.setIfInBounds_toArray, List.set_cons_zero, List.set_cons_succ, fq6, fq2]
  refine wpAnyH_ready (rs := [2]) (by kernel_rfl) (by simp) ?_
  refine AllReadyH.cons (o := _) rfl (fun K hK => ?_) AllReadyH.nil
  go_simp
  with_reducible refine ((ref_Of 1) _).mono ?_
  rintro e v1 ⟨rfl, hb⟩
  replace hHeld := Below.trans hHeld (Below.mono hb (Below.size hHeld))
  clear hb
  (try go_wp2_with fail)
  refine hK.out _ _ ?_ (fun hHeld2 => ?_)
  · exact kg
  clear hK K hHeld
  have hHeld := hHeld2
  clear hHeld2
  try simp only [Act.put, List.setIfInBounds_toArray, List.set_cons_zero, List.set_cons_succ, fq6, fq2]
  refine wpAnyH_ready (rs := [3]) (by kernel_rfl) (by simp) ?_
  refine AllReadyH.cons (o := _) rfl (fun K hK => ?_) AllReadyH.nil
  go_simp
  with_reducible refine (AC3 _).mono ?_
  rintro e v2 ⟨rfl, hb⟩
  replace hHeld := Below.trans hHeld (Below.mono hb (Below.size hHeld))
  clear hb
  (try go_wp2_with fail)
  refine hK.out _ _ ?_ (fun hHeld2 => ?_)
  · exact kg
  clear hK K hHeld
  have hHeld := hHeld2
  clear hHeld2
  try simp only [Act.put, List.setIfInBounds_toArray, List.set_cons_zero, List.set_cons_succ, fq6, fq2]
  refine wpAnyH_ready (rs := [4]) (by kernel_rfl) (by simp) ?_
  refine AllReadyH.cons (o := _) rfl (fun K hK => ?_) AllReadyH.nil
  go_simp
  refine hK.out _ _ ?_ (fun hHeld2 => ?_)
  · exact kg
  clear hK K hHeld
  have hHeld := hHeld2
  clear hHeld2
  try simp only [Act.put, List.setIfInBounds_toArray, List.set_cons_zero, List.set_cons_succ, fq6, fq2]
  refine wpAnyH_take (i := 5) (oi := _) (v := ?_) rfl (by kernel_rfl) (by kernel_rfl) (by kernel_rfl) (fun _ _ _ h => h) (Or.inl ⟨by rfl, ?_⟩) (by assumption) ?_
  rotate_left
  · (intro w hSw; (try dsimp only at hSw); go_simp; (try with_reducible rfl))
  try simp only [Act.put, List.setIfInBounds_toArray, List.set_cons_zero, List.set_cons_succ, fq6, fq2]
  refine take6v 6 (.tmp 5) (w.heap.size + 1 + 1) U rfl rfl (by kernel_rfl) (by kernel_rfl) (by kernel_rfl) (fun _ _ _ h => h) (by rfl) rfl (fun w k => cs_below cU k (by omega)) (by assumption) ?_
  try simp only [Act.put, List.setIfInBounds_toArray, List.set_cons_zero, List.set_cons_succ, fq6, fq2]
  refine take6v 7 (.tmp 5) (w.heap.size + 1 + 1) U rfl rfl (by kernel_rfl) (by kernel_rfl) (by kernel_rfl) (fun _ _ _ h => h) (by rfl) rfl (fun w k => cs_below cU k (by omega)) (by assumption) ?_
  try simp only [Act.put, List.setIfInBounds_toArray, List.set_cons_zero, List.set_cons_succ, fq6, fq2]
  refine wpAnyH_ready (rs := [8]) (by kernel_rfl) (by simp) ?_
  refine AllReadyH.cons (o := _) rfl (fun K hK => ?_) AllReadyH.nil
  go_simp
  with_reducible refine ((ref_Of 1) _).mono ?_
  rintro e v3 ⟨rfl, hb⟩
  replace hHeld := Below.trans hHeld (Below.mono hb (Below.size hHeld))
  clear hb
  (try go_wp2_with fail)
  refine hK.out _ _ ?_ (fun hHeld2 => ?_)
  · exact kg
  clear hK K hHeld
  have hHeld := hHeld2
  clear hHeld2
  try simp only [Act.put, List.setIfInBounds_toArray, List.set_cons_zero, List.set_cons_succ, fq6, fq2]
  refine wpAnyH_ready (rs := [9]) (by kernel_rfl) (by simp) ?_
  refine AllReadyH.cons (o := _) rfl (fun K hK => ?_) AllReadyH.nil
  go_simp
  with_reducible refine (AC9 _).mono ?_
  rintro e v4 ⟨rfl, hb⟩
  replace hHeld := Below.trans hHeld (Below.mono hb (Below.size hHeld))
  clear hb
  (try go_wp2_with fail)
  refine hK.out _ _ ?_ (fun hHeld2 => ?_)
  · exact kg
  clear hK K hHeld
  have hHeld := hHeld2
  clear hHeld2
  try simp only [Act.put, List.setIfInBounds_toArray, List.set_cons_zero, List.set_cons_succ, fq6, fq2]
  refine wpAnyH_ready (rs := [10]) (by kernel_rfl) (by simp) ?_
  refine AllReadyH.cons (o := _) rfl (fun K hK => ?_) AllReadyH.nil
  go_simp
  refine hK.out _ _ ?_ (fun hHeld2 => ?_)
  · exact kg
  clear hK K hHeld
  have hHeld := hHeld2
  clear hHeld2
  try simp only [Act.put, List.setIfInBounds_toArray, List.set_cons_zero, List.set_cons_succ, fq6, fq2]
  refine wpAnyH_ready (rs := [11]) (by kernel_rfl) (by simp) ?_
  refine AllReadyH.cons (o := _) rfl (fun K hK => ?_) AllReadyH.nil
  go_simp
  refine hK.out _ _ ?_ (fun hHeld2 => ?_)
  · exact kg
  clear hK K hHeld
  have hHeld := hHeld2
  clear hHeld2
  try simp only [Act.put, List.setIfInBounds_toArray, List.set_cons_zero, List.set_cons_succ, fq6, fq2]
  refine wpAnyH_done (by kernel_rfl) ?_ _

  have hb : Below w0.heap.size w0 v4 := hHeld
  clear hHeld AC3 AC9
  replace cV := cs_below cV hb (by omega)
  replace cW := cs_below cW hb (by omega)
  replace cU := cs_below cU hb (by omega)
  replace HBa := HBa.trans (hb.mono (by omega))
  replace zs := Nat.lt_of_lt_of_le zs hb.size
  clear hb
  go_wp2_with fail
  with_reducible refine (AL.out _).mono ?_
  rintro e z1 ⟨rfl, hb⟩
  go_wp2_with fail
  go_ret
  exact ⟨rfl, HBa.trans (hb.mono (by omega))⟩
set_option maxRecDepth 100000 in
set_option maxHeartbeats 16000000 in
theorem cross_walk (V W U C D F : Nat → Int) (x1 x2 y1 y2 z1 z2 d1 d2 t1 t2 e1 e2 e3 e4 e5 : Int) (h1 : e1 = 0 ∨ e1 = 16) (h2 : e2 = 0 ∨ e2 = 16) (h3 : e3 = 0 ∨ e3 = 16)
    (hK : e1 = 0 → e2 = 0 → e3 = 0 → e4 = 0 → e5 = 0 → x1 = 0 ∧ x2 = 1 ∧ y1 = 0 ∧ y2 = 1 ∧ d1 = z1 ∧ d2 = z2 ∧ t1 = z1 ∧ t2 = z2)
    (HS : ∀ w : World, Calls Try.prog 29 #[.agg #[.int .i64 (V 0), .int .i64 (V 1), .int .i64 (V 2), .int .i64 (V 3), .int .i64 (V 4), .int .i64 (V 5)], .agg #[.int .i64 (W 0), .int .i64 (W 1), .int .i64 (W 2), .int .i64 (W 3), .int .i64 (W 4), .int .i64 (W 5)], .agg #[.int .i64 1, .int .i64 1]] w fun x w' => x = .returned (.bool true) ∧ Below w.heap.size w w') (HT : ∀ w : World, Calls Try.prog 29 #[.agg #[.int .i64 (U 0), .int .i64 (U 1), .int .i64 (U 2), .int .i64 (U 3), .int .i64 (U 4), .int .i64 (U 5)], .agg #[.int .i64 (U 0), .int .i64 (U 1), .int .i64 (U 2), .int .i64 (U 3), .int .i64 (U 4), .int .i64 (U 5)], .agg #[.int .i64 1, .int .i64 1]] w fun x w' => x = .returned (.bool true) ∧ Below w.heap.size w w') (HA : ∀ w : World, Calls Try.prog 22 #[] w fun x w' => x = .returned (.bool true) ∧ Below w.heap.size w w')
    (H0 : ∀ w : World, Calls Try.prog 17 #[.agg #[.int .i64 (V 0), .int .i64 (V 1), .int .i64 (V 2), .int .i64 (V 3), .int .i64 (V 4), .int .i64 (V 5)], .agg #[.int .i64 (W 0), .int .i64 (W 1), .int .i64 (W 2), .int .i64 (W 3), .int .i64 (W 4), .int .i64 (W 5)]] w fun x w' => x = .returned (.tuple #[.agg #[.int .i64 (C 0), .int .i64 (C 1), .int .i64 (C 2), .int .i64 (C 3), .int .i64 (C 4), .int .i64 (C 5)], .int .i64 0]) ∧ Below w.heap.size w w')
    (H1 : ∀ w : World, Calls Try.prog 17 #[.agg #[.int .i64 (W 0), .int .i64 (W 1), .int .i64 (W 2), .int .i64 (W 3), .int .i64 (W 4), .int .i64 (W 5)], .agg #[.int .i64 (V 0), .int .i64 (V 1), .int .i64 (V 2), .int .i64 (V 3), .int .i64 (V 4), .int .i64 (V 5)]] w fun x w' => x = .returned (.tuple #[.agg #[.int .i64 (D 0), .int .i64 (D 1), .int .i64 (D 2), .int .i64 (D 3), .int .i64 (D 4), .int .i64 (D 5)], .int .i64 0]) ∧ Below w.heap.size w w')
    (H2 : ∀ w : World, Calls Try.prog 30 #[.agg #[.int .i64 (D 0), .int .i64 (D 1), .int .i64 (D 2), .int .i64 (D 3), .int .i64 (D 4), .int .i64 (D 5)]] w fun x w' => x = .returned (.agg #[.int .i64 (C 0), .int .i64 (C 1), .int .i64 (C 2), .int .i64 (C 3), .int .i64 (C 4), .int .i64 (C 5)]) ∧ Below w.heap.size w w')
    (H3 : ∀ w : World, Calls Try.prog 16 #[.agg #[.int .i64 (C 0), .int .i64 (C 1), .int .i64 (C 2), .int .i64 (C 3), .int .i64 (C 4), .int .i64 (C 5)], .agg #[.int .i64 (V 0), .int .i64 (V 1), .int .i64 (V 2), .int .i64 (V 3), .int .i64 (V 4), .int .i64 (V 5)]] w fun x w' => x = .returned (.tuple #[.agg #[.int .i64 x1, .int .i64 x2], .int .i64 e1]) ∧ Below w.heap.size w w')
    (H4 : ∀ w : World, Calls Try.prog 16 #[.agg #[.int .i64 (C 0), .int .i64 (C 1), .int .i64 (C 2), .int .i64 (C 3), .int .i64 (C 4), .int .i64 (C 5)], .agg #[.int .i64 (W 0), .int .i64 (W 1), .int .i64 (W 2), .int .i64 (W 3), .int .i64 (W 4), .int .i64 (W 5)]] w fun x w' => x = .returned (.tuple #[.agg #[.int .i64 y1, .int .i64 y2], .int .i64 e2]) ∧ Below w.heap.size w w')
    (H5 : ∀ w : World, Calls Try.prog 16 #[.agg #[.int .i64 (U 0), .int .i64 (U 1), .int .i64 (U 2), .int .i64 (U 3), .int .i64 (U 4), .int .i64 (U 5)], .agg #[.int .i64 (C 0), .int .i64 (C 1), .int .i64 (C 2), .int .i64 (C 3), .int .i64 (C 4), .int .i64 (C 5)]] w fun x w' => x = .returned (.tuple #[.agg #[.int .i64 z1, .int .i64 z2], .int .i64 e3]) ∧ Below w.heap.size w w')
    (H6 : ∀ w : World, Calls Try.prog 14 #[.agg #[.int .i64 ((m3 U V W) 0), .int .i64 ((m3 U V W) 1), .int .i64 ((m3 U V W) 2), .int .i64 ((m3 U V W) 3), .int .i64 ((m3 U V W) 4), .int .i64 ((m3 U V W) 5), .int .i64 ((m3 U V W) 6), .int .i64 ((m3 U V W) 7), .int .i64 ((m3 U V W) 8), .int .i64 ((m3 U V W) 9), .int .i64 ((m3 U V W) 10), .int .i64 ((m3 U V W) 11), .int .i64 ((m3 U V W) 12), .int .i64 ((m3 U V W) 13), .int .i64 ((m3 U V W) 14), .int .i64 ((m3 U V W) 15), .int .i64 ((m3 U V W) 16), .int .i64 ((m3 U V W) 17)]] w fun x w' => x = .returned (.tuple #[.agg #[.int .i64 d1, .int .i64 d2], .int .i64 e4]) ∧ Below w.heap.size w w')
    (H7 : ∀ w : World, Calls Try.prog 20 #[.agg #[.int .i64 ((m3 U V W) 0), .int .i64 ((m3 U V W) 1), .int .i64 ((m3 U V W) 2), .int .i64 ((m3 U V W) 3), .int .i64 ((m3 U V W) 4), .int .i64 ((m3 U V W) 5), .int .i64 ((m3 U V W) 6), .int .i64 ((m3 U V W) 7), .int .i64 ((m3 U V W) 8), .int .i64 ((m3 U V W) 9), .int .i64 ((m3 U V W) 10), .int .i64 ((m3 U V W) 11), .int .i64 ((m3 U V W) 12), .int .i64 ((m3 U V W) 13), .int .i64 ((m3 U V W) 14), .int .i64 ((m3 U V W) 15), .int .i64 ((m3 U V W) 16), .int .i64 ((m3 U V W) 17)]] w fun x w' => x = .returned (.tuple #[.agg #[.int .i64 (F 0), .int .i64 (F 1), .int .i64 (F 2), .int .i64 (F 3), .int .i64 (F 4), .int .i64 (F 5), .int .i64 (F 6), .int .i64 (F 7), .int .i64 (F 8), .int .i64 (F 9), .int .i64 (F 10), .int .i64 (F 11), .int .i64 (F 12), .int .i64 (F 13), .int .i64 (F 14), .int .i64 (F 15), .int .i64 (F 16), .int .i64 (F 17)], .int .i64 0]) ∧ Below w.heap.size w w')
    (H8 : ∀ w : World, Calls Try.prog 14 #[.agg #[.int .i64 (F 0), .int .i64 (F 1), .int .i64 (F 2), .int .i64 (F 3), .int .i64 (F 4), .int .i64 (F 5), .int .i64 (F 6), .int .i64 (F 7), .int .i64 (F 8), .int .i64 (F 9), .int .i64 (F 10), .int .i64 (F 11), .int .i64 (F 12), .int .i64 (F 13), .int .i64 (F 14), .int .i64 (F 15), .int .i64 (F 16), .int .i64 (F 17)]] w fun x w' => x = .returned (.tuple #[.agg #[.int .i64 t1, .int .i64 t2], .int .i64 e5]) ∧ Below w.heap.size w w')
    (w : World) :
    Calls Try.prog 6 #[.agg #[.int .i64 (V 0), .int .i64 (V 1), .int .i64 (V 2), .int .i64 (V 3), .int .i64 (V 4), .int .i64 (V 5)], .agg #[.int .i64 (W 0), .int .i64 (W 1), .int .i64 (W 2), .int .i64 (W 3), .int .i64 (W 4), .int .i64 (W 5)], .agg #[.int .i64 (U 0), .int .i64 (U 1), .int .i64 (U 2), .int .i64 (U 3), .int .i64 (U 4), .int .i64 (U 5)]] w fun x w' => x = .returned (.bool true) ∧ Below w.heap.size w w' := by
  have SA := Lib.hid HS
  have SB := Lib.hid HT
  have AL := Lib.hid HA
  have HK := Lib.hid hK
  have E1 := Lib.hid h1
  have E2 := Lib.hid h2
  have E3 := Lib.hid h3
  have K0 := Lib.hid H0
  have K1 := Lib.hid H1
  have K2 := Lib.hid H2
  have K3 := Lib.hid H3
  have K4 := Lib.hid H4
  have K5 := Lib.hid H5
  have K6 := Lib.hid H6
  have K7 := Lib.hid H7
  have K8 := Lib.hid H8
  clear HS HT HA hK h1 h2 h3 H0 H1 H2 H3 H4 H5 H6 H7 H8
  have dAl := dAl; have dSt := dSt
  go_enter Try.func6, Try.ntmps6
  go_upto_region 1 with fail
  refine opq (fun wx => Cs wx (w.heap.size) 6 V ∧ Cs wx (w.heap.size + 1) 6 W ∧ Cs wx (w.heap.size + 1 + 1) 6 U ∧ w.heap.size + 1 + 1 < wx.heap.size ∧ Below w.heap.size w wx) ?_ ?_
  · exact ⟨cs_alloc _ (cs_alloc _ (cs_new rfl (arrV V)) (by simp)) (by simp <;> omega), cs_alloc _ (cs_new (by simp) (arrV W)) (by simp), cs_new (by simp) (arrV U), by simp, kb⟩
  rintro w0 ⟨cV, cW, cU, zs, HBa⟩
  refine wp_region_held_drew (S := (fun w' => Below w0.heap.size w0 w')) (by kernel_rfl) ?_ (fun hHeld => ?_)
  · exact Below.drew (Below.refl _ _)
  refine take6v 0 (.tmp 3) w.heap.size V rfl rfl (by kernel_rfl) (by kernel_rfl) (by kernel_rfl) (fun _ _ _ h => h) (by rfl) rfl (fun w k => cs_below cV k (by omega)) (by assumption) ?_
  try simp only [Act.put, List.setIfInBounds_toArray, List.set_cons_zero, List.set_cons_succ, fq6, fq2]
  refine take6v 1 (.tmp 4) (w.heap.size + 1) W rfl rfl (by kernel_rfl) (by kernel_rfl) (by kernel_rfl) (fun _ _ _ h => h) (by rfl) rfl (fun w k => cs_below cW k (by omega)) (by assumption) ?_
  try simp only [Act.put, List.setIfInBounds_toArray, List.set_cons_zero, List.set_cons_succ, fq6, fq2]
  refine wpAnyH_ready (rs := [2]) (by kernel_rfl) (by simp) ?_
  refine AllReadyH.cons (o := _) rfl (fun K hK => ?_) AllReadyH.nil
  go_simp
  with_reducible refine ((ref_Of 1) _).mono ?_
  rintro e v1 ⟨rfl, hb⟩
  replace hHeld := Below.trans hHeld (Below.mono hb (Below.size hHeld))
  clear hb
  (try go_wp2_with fail)
  refine hK.out _ _ ?_ (fun hHeld2 => ?_)
  · exact kg
  clear hK K hHeld
  have hHeld := hHeld2
  clear hHeld2
  try simp only [Act.put, List.setIfInBounds_toArray, List.set_cons_zero, List.set_cons_succ, fq6, fq2]
  refine wpAnyH_ready (rs := [3]) (by kernel_rfl) (by simp) ?_
  refine AllReadyH.cons (o := _) rfl (fun K hK => ?_) AllReadyH.nil
  go_simp
  with_reducible refine (SA.out _).mono ?_
  rintro e v2 ⟨rfl, hb⟩
  replace hHeld := Below.trans hHeld (Below.mono hb (Below.size hHeld))
  clear hb
  (try go_wp2_with fail)
  refine hK.out _ _ ?_ (fun hHeld2 => ?_)
  · exact kg
  clear hK K hHeld
  have hHeld := hHeld2
  clear hHeld2
  try simp only [Act.put, List.setIfInBounds_toArray, List.set_cons_zero, List.set_cons_succ, fq6, fq2]
  refine wpAnyH_ready (rs := [4]) (by kernel_rfl) (by simp) ?_
  refine AllReadyH.cons (o := _) rfl (fun K hK => ?_) AllReadyH.nil
  go_simp
  refine hK.out _ _ ?_ (fun hHeld2 => ?_)
  · exact kg
  clear hK K hHeld
  have hHeld := hHeld2
  clear hHeld2
  try simp only [Act.put, List.setIfInBounds_toArray, List.set_cons_zero, List.set_cons_succ, fq6, fq2]
  refine wpAnyH_take (i := 5) (oi := _) (v := ?_) rfl (by kernel_rfl) (by kernel_rfl) (by kernel_rfl) (fun _ _ _ h => h) (Or.inl ⟨by rfl, ?_⟩) (by assumption) ?_
  rotate_left
  · (intro w hSw; (try dsimp only at hSw); go_simp; (try with_reducible rfl))
  try simp only [Act.put, List.setIfInBounds_toArray, List.set_cons_zero, List.set_cons_succ, fq6, fq2]
  refine take6v 6 (.tmp 5) (w.heap.size + 1 + 1) U rfl rfl (by kernel_rfl) (by kernel_rfl) (by kernel_rfl) (fun _ _ _ h => h) (by rfl) rfl (fun w k => cs_below cU k (by omega)) (by assumption) ?_
  try simp only [Act.put, List.setIfInBounds_toArray, List.set_cons_zero, List.set_cons_succ, fq6, fq2]
  refine take6v 7 (.tmp 5) (w.heap.size + 1 + 1) U rfl rfl (by kernel_rfl) (by kernel_rfl) (by kernel_rfl) (fun _ _ _ h => h) (by rfl) rfl (fun w k => cs_below cU k (by omega)) (by assumption) ?_
  try simp only [Act.put, List.setIfInBounds_toArray, List.set_cons_zero, List.set_cons_succ, fq6, fq2]
  refine wpAnyH_ready (rs := [8]) (by kernel_rfl) (by simp) ?_
  refine AllReadyH.cons (o := _) rfl (fun K hK => ?_) AllReadyH.nil
  go_simp
  with_reducible refine ((ref_Of 1) _).mono ?_
  rintro e v3 ⟨rfl, hb⟩
  replace hHeld := Below.trans hHeld (Below.mono hb (Below.size hHeld))
  clear hb
  (try go_wp2_with fail)
  refine hK.out _ _ ?_ (fun hHeld2 => ?_)
  · exact kg
  clear hK K hHeld
  have hHeld := hHeld2
  clear hHeld2
  try simp only [Act.put, List.setIfInBounds_toArray, List.set_cons_zero, List.set_cons_succ, fq6, fq2]
  refine wpAnyH_ready (rs := [9]) (by kernel_rfl) (by simp) ?_
  refine AllReadyH.cons (o := _) rfl (fun K hK => ?_) AllReadyH.nil
  go_simp
  with_reducible refine (SB.out _).mono ?_
  rintro e v4 ⟨rfl, hb⟩
  replace hHeld := Below.trans hHeld (Below.mono hb (Below.size hHeld))
  clear hb
  (try go_wp2_with fail)
  refine hK.out _ _ ?_ (fun hHeld2 => ?_)
  · exact kg
  clear hK K hHeld
  have hHeld := hHeld2
  clear hHeld2
  try simp only [Act.put, List.setIfInBounds_toArray, List.set_cons_zero, List.set_cons_succ, fq6, fq2]
  refine wpAnyH_ready (rs := [10]) (by kernel_rfl) (by simp) ?_
  refine AllReadyH.cons (o := _) rfl (fun K hK => ?_) AllReadyH.nil
  go_simp
  refine hK.out _ _ ?_ (fun hHeld2 => ?_)
  · exact kg
  clear hK K hHeld
  have hHeld := hHeld2
  clear hHeld2
  try simp only [Act.put, List.setIfInBounds_toArray, List.set_cons_zero, List.set_cons_succ, fq6, fq2]
  refine wpAnyH_ready (rs := [11]) (by kernel_rfl) (by simp) ?_
  refine AllReadyH.cons (o := _) rfl (fun K hK => ?_) AllReadyH.nil
  go_simp
  refine hK.out _ _ ?_ (fun hHeld2 => ?_)
  · exact kg
  clear hK K hHeld
  have hHeld := hHeld2
  clear hHeld2
  try simp only [Act.put, List.setIfInBounds_toArray, List.set_cons_zero, List.set_cons_succ, fq6, fq2]
  refine wpAnyH_done (by kernel_rfl) ?_ _

  have hb : Below w0.heap.size w0 v4 := hHeld
  clear hHeld
  replace cV := cs_below cV hb (by omega)
  replace cW := cs_below cW hb (by omega)
  replace cU := cs_below cU hb (by omega)
  replace HBa := HBa.trans (hb.mono (by omega))
  replace zs := Nat.lt_of_lt_of_le zs hb.size
  clear hb
  go_upto_region 3 with fail
  clear SA SB
  go_step
  have hV : ∀ o, o < 6 → v4.cell? ⟨w.heap.size, o, none⟩ = some (.int .i64 (V o)) := cV
  refine wpList_plain rfl (fun K hK => ?_)
  go_big_op
  refine hK _ _ ?_
  clear hK K
  clear hV
  have hV : ∀ o, o < 6 → v4.cell? ⟨w.heap.size + 1, o, none⟩ = some (.int .i64 (W o)) := cW
  refine wpList_plain rfl (fun K hK => ?_)
  go_big_op
  refine hK _ _ ?_
  clear hK K
  clear hV
  have AC := K0.out
  refine wpList_plain rfl (fun K hK => ?_)
  go_big_op
  with_reducible refine (AC _).mono ?_
  rintro e v5 ⟨rfl, hb⟩
  simp only []
  refine hK _ _ ?_
  clear hK K
  replace cV := cs_below cV hb (by omega)
  replace cW := cs_below cW hb (by omega)
  replace cU := cs_below cU hb (by omega)
  replace HBa := HBa.trans (hb.mono (by omega))
  replace zs := Nat.lt_of_lt_of_le zs hb.size
  clear hb
  clear AC
  go_upto_region 4 with fail
  refine opq (fun wx => Cs wx (w.heap.size) 6 V ∧ Cs wx (w.heap.size + 1) 6 W ∧ Cs wx (w.heap.size + 1 + 1) 6 U ∧ Cs wx v5.heap.size 6 C ∧ v5.heap.size < wx.heap.size ∧ Below w.heap.size w wx) ?_ ?_
  · have zb := HBa.size
    exact ⟨kc, kc, kc, by (intro o ho; rcases (show o = 0 ∨ o = 1 ∨ o = 2 ∨ o = 3 ∨ o = 4 ∨ o = 5 by omega) with rfl | rfl | rfl | rfl | rfl | rfl <;> simp [fq2, fq6, go_sem]), by simp [World.setCell], kg⟩
  have y8 := zs
  clear cV cW cU HBa zs
  generalize hq : v5.heap.size = q6 at *
  clear hq
  rintro u7 ⟨cV, cW, cU, cq6, zs, HBa⟩
  clear K0
  go_step
  have hV : ∀ o, o < 6 → u7.cell? ⟨w.heap.size + 1, o, none⟩ = some (.int .i64 (W o)) := cW
  refine wpList_plain rfl (fun K hK => ?_)
  go_big_op
  refine hK _ _ ?_
  clear hK K
  clear hV
  have hV : ∀ o, o < 6 → u7.cell? ⟨w.heap.size, o, none⟩ = some (.int .i64 (V o)) := cV
  refine wpList_plain rfl (fun K hK => ?_)
  go_big_op
  refine hK _ _ ?_
  clear hK K
  clear hV
  have AC := K1.out
  refine wpList_plain rfl (fun K hK => ?_)
  go_big_op
  with_reducible refine (AC _).mono ?_
  rintro e v9 ⟨rfl, hb⟩
  simp only []
  refine hK _ _ ?_
  clear hK K
  replace cV := cs_below cV hb (by omega)
  replace cW := cs_below cW hb (by omega)
  replace cU := cs_below cU hb (by omega)
  replace cq6 := cs_below cq6 hb (by omega)
  replace HBa := HBa.trans (hb.mono (by omega))
  replace zs := Nat.lt_of_lt_of_le zs hb.size
  clear hb
  clear AC
  go_upto_region 5 with fail
  refine opq (fun wx => Cs wx (w.heap.size) 6 V ∧ Cs wx (w.heap.size + 1) 6 W ∧ Cs wx (w.heap.size + 1 + 1) 6 U ∧ Cs wx (q6) 6 C ∧ Cs wx v9.heap.size 6 D ∧ v9.heap.size < wx.heap.size ∧ Below w.heap.size w wx) ?_ ?_
  · have zb := HBa.size
    exact ⟨kc, kc, kc, kc, by (intro o ho; rcases (show o = 0 ∨ o = 1 ∨ o = 2 ∨ o = 3 ∨ o = 4 ∨ o = 5 by omega) with rfl | rfl | rfl | rfl | rfl | rfl <;> simp [fq2, fq6, go_sem]), by simp [World.setCell], kg⟩
  have y12 := zs
  clear cV cW cU cq6 HBa zs
  generalize hq : v9.heap.size = q10 at *
  clear hq
  rintro u11 ⟨cV, cW, cU, cq6, cq10, zs, HBa⟩
  clear K1
  have AC9 := K2.out
  refine wp_region_held_drew (S := (fun w' => Below u11.heap.size u11 w')) (by kernel_rfl) ?_ (fun hHeld => ?_)
  · exact Below.drew (Below.refl _ _)
  refine wpAnyH_take (i := 0) (oi := _) (v := ?_) rfl (by kernel_rfl) (by kernel_rfl) (by kernel_rfl) (fun _ _ _ h => h) (Or.inl ⟨by rfl, ?_⟩) (by assumption) ?_
  rotate_left
  · (intro w hSw; (try dsimp only at hSw); go_simp; (try with_reducible rfl))
  try simp only [Act.put, List.setIfInBounds_toArray, List.set_cons_zero, List.set_cons_succ, fq6, fq2]
  refine wpAnyH_take (i := 1) (oi := _) (v := ?_) rfl (by kernel_rfl) (by kernel_rfl) (by kernel_rfl) (fun _ _ _ h => h) (Or.inl ⟨by rfl, ?_⟩) (by assumption) ?_
  rotate_left
  · (intro w hSw; (try dsimp only at hSw); go_simp; (try with_reducible rfl))
  try simp only [Act.put, List.setIfInBounds_toArray, List.set_cons_zero, List.set_cons_succ, fq6, fq2]
  refine wpAnyH_take (i := 2) (oi := _) (v := ?_) rfl (by kernel_rfl) (by kernel_rfl) (by kernel_rfl) (fun _ _ _ h => h) (Or.inl ⟨by rfl, ?_⟩) (by assumption) ?_
  rotate_left
  · (intro w hSw; (try dsimp only at hSw); go_simp; (try with_reducible rfl))
  try simp only [Act.put, List.setIfInBounds_toArray, List.set_cons_zero, List.set_cons_succ, fq6, fq2]
  refine wpAnyH_take (i := 3) (oi := _) (v := ?_) rfl (by kernel_rfl) (by kernel_rfl) (by kernel_rfl) (fun _ _ _ h => h) (Or.inl ⟨by rfl, ?_⟩) (by assumption) ?_
  rotate_left
  · (intro w hSw; (try dsimp only at hSw); go_simp; (try with_reducible rfl))
  try simp only [Act.put, List.setIfInBounds_toArray, List.set_cons_zero, List.set_cons_succ, fq6, fq2]
  refine wpAnyH_take (i := 4) (oi := _) (v := ?_) rfl (by kernel_rfl) (by kernel_rfl) (by kernel_rfl) (fun _ _ _ h => h) (Or.inl ⟨by rfl, ?_⟩) (by assumption) ?_
  rotate_left
  · (intro w hSw; (try dsimp only at hSw); go_simp; (try with_reducible rfl))
  try simp only [Act.put, List.setIfInBounds_toArray, List.set_cons_zero, List.set_cons_succ, fq6, fq2]
  refine wpAnyH_ready (rs := [5]) (by kernel_rfl) (by simp) ?_
  refine AllReadyH.cons (o := _) rfl (fun K hK => ?_) AllReadyH.nil
  go_simp
  refine hK.out _ _ ?_ (fun hHeld2 => ?_)
  · exact kg
  clear hK K hHeld
  have hHeld := hHeld2
  clear hHeld2
  try simp only [Act.put, List.setIfInBounds_toArray, List.set_cons_zero, List.set_cons_succ, fq6, fq2]
  refine wpAnyH_take (i := 6) (oi := _) (v := ?_) rfl (by kernel_rfl) (by kernel_rfl) (by kernel_rfl) (fun _ _ _ h => h) (Or.inl ⟨by rfl, ?_⟩) (by assumption) ?_
  rotate_left
  · (intro w hSw; (try dsimp only at hSw); go_simp; (try with_reducible rfl))
  try simp only [Act.put, List.setIfInBounds_toArray, List.set_cons_zero, List.set_cons_succ, fq6, fq2]
  refine take6v 7 (.tmp 7) q6 C rfl rfl (by kernel_rfl) (by kernel_rfl) (by kernel_rfl) (fun _ _ _ h => h) (by rfl) rfl (fun w k => cs_below cq6 k (by omega)) (by assumption) ?_
  try simp only [Act.put, List.setIfInBounds_toArray, List.set_cons_zero, List.set_cons_succ, fq6, fq2]
  refine take6v 8 (.tmp 9) q10 D rfl rfl (by kernel_rfl) (by kernel_rfl) (by kernel_rfl) (fun _ _ _ h => h) (by rfl) rfl (fun w k => cs_below cq10 k (by omega)) (by assumption) ?_
  try simp only [Act.put, List.setIfInBounds_toArray, List.set_cons_zero, List.set_cons_succ, fq6, fq2]
  refine wpAnyH_ready (rs := [9]) (by kernel_rfl) (by simp) ?_
  refine AllReadyH.cons (o := _) rfl (fun K hK => ?_) AllReadyH.nil
  go_simp
  with_reducible refine (AC9 _).mono ?_
  rintro e v13 ⟨rfl, hb⟩
  replace hHeld := Below.trans hHeld (Below.mono hb (Below.size hHeld))
  clear hb
  (try go_wp2_with fail)
  refine hK.out _ _ ?_ (fun hHeld2 => ?_)
  · exact kg
  clear hK K hHeld
  have hHeld := hHeld2
  clear hHeld2
  try simp only [Act.put, List.setIfInBounds_toArray, List.set_cons_zero, List.set_cons_succ, fq6, fq2]
  refine wpAnyH_take (i := 10) (oi := _) (v := ?_) rfl (by kernel_rfl) (by kernel_rfl) (by kernel_rfl) (fun _ _ _ h => h) (Or.inl ⟨by rfl, ?_⟩) (by assumption) ?_
  rotate_left
  · (intro w hSw; (try dsimp only at hSw); go_simp; (try with_reducible rfl))
  try simp only [Act.put, List.setIfInBounds_toArray, List.set_cons_zero, List.set_cons_succ, fq6, fq2]
  refine wpAnyH_ready (rs := [11]) (by kernel_rfl) (by simp) ?_
  refine AllReadyH.cons (o := _) rfl (fun K hK => ?_) AllReadyH.nil
  go_simp
  refine hK.out _ _ ?_ (fun hHeld2 => ?_)
  · exact kg
  clear hK K hHeld
  have hHeld := hHeld2
  clear hHeld2
  try simp only [Act.put, List.setIfInBounds_toArray, List.set_cons_zero, List.set_cons_succ, fq6, fq2]
  refine wpAnyH_done (by kernel_rfl) ?_ _

  have hb : Below u11.heap.size u11 v13 := hHeld
  clear hHeld AC9
  replace cV := cs_below cV hb (by omega)
  replace cW := cs_below cW hb (by omega)
  replace cU := cs_below cU hb (by omega)
  replace cq6 := cs_below cq6 hb (by omega)
  replace cq10 := cs_below cq10 hb (by omega)
  replace HBa := HBa.trans (hb.mono (by omega))
  replace zs := Nat.lt_of_lt_of_le zs hb.size
  clear hb
  go_upto_region 7 with fail
  clear K2
  go_step
  have hV : ∀ o, o < 6 → v13.cell? ⟨q6, o, none⟩ = some (.int .i64 (C o)) := cq6
  refine wpList_plain rfl (fun K hK => ?_)
  go_big_op
  refine hK _ _ ?_
  clear hK K
  clear hV
  have hV : ∀ o, o < 6 → v13.cell? ⟨w.heap.size, o, none⟩ = some (.int .i64 (V o)) := cV
  refine wpList_plain rfl (fun K hK => ?_)
  go_big_op
  refine hK _ _ ?_
  clear hK K
  clear hV
  have AC := K3.out
  refine wpList_plain rfl (fun K hK => ?_)
  go_big_op
  with_reducible refine (AC _).mono ?_
  rintro e v14 ⟨rfl, hb⟩
  simp only []
  refine hK _ _ ?_
  clear hK K
  replace cV := cs_below cV hb (by omega)
  replace cW := cs_below cW hb (by omega)
  replace cU := cs_below cU hb (by omega)
  replace cq6 := cs_below cq6 hb (by omega)
  replace cq10 := cs_below cq10 hb (by omega)
  replace HBa := HBa.trans (hb.mono (by omega))
  replace zs := Nat.lt_of_lt_of_le zs hb.size
  clear hb
  clear AC
  go_upto_region 8 with fail
  refine opq (fun wx => Cs wx (w.heap.size) 6 V ∧ Cs wx (w.heap.size + 1) 6 W ∧ Cs wx (w.heap.size + 1 + 1) 6 U ∧ Cs wx (q6) 6 C ∧ Cs wx (q10) 6 D ∧ Cs wx v14.heap.size 2 (fq2 x1 x2) ∧ v14.heap.size < wx.heap.size ∧ Below w.heap.size w wx) ?_ ?_
  · have zb := HBa.size
    exact ⟨kc, kc, kc, kc, kc, by (intro o ho; rcases (show o = 0 ∨ o = 1 by omega) with rfl | rfl <;> simp [fq2, fq6, go_sem]), by simp [World.setCell], kg⟩
  have y17 := zs
  clear cV cW cU cq6 cq10 HBa zs
  generalize hq : v14.heap.size = q15 at *
  clear hq
  rintro u16 ⟨cV, cW, cU, cq6, cq10, cq15, zs, HBa⟩
  clear K3
  go_step
  have hV : ∀ o, o < 6 → u16.cell? ⟨q6, o, none⟩ = some (.int .i64 (C o)) := cq6
  refine wpList_plain rfl (fun K hK => ?_)
  go_big_op
  refine hK _ _ ?_
  clear hK K
  clear hV
  have hV : ∀ o, o < 6 → u16.cell? ⟨w.heap.size + 1, o, none⟩ = some (.int .i64 (W o)) := cW
  refine wpList_plain rfl (fun K hK => ?_)
  go_big_op
  refine hK _ _ ?_
  clear hK K
  clear hV
  have AC := K4.out
  refine wpList_plain rfl (fun K hK => ?_)
  go_big_op
  with_reducible refine (AC _).mono ?_
  rintro e v18 ⟨rfl, hb⟩
  simp only []
  refine hK _ _ ?_
  clear hK K
  replace cV := cs_below cV hb (by omega)
  replace cW := cs_below cW hb (by omega)
  replace cU := cs_below cU hb (by omega)
  replace cq6 := cs_below cq6 hb (by omega)
  replace cq10 := cs_below cq10 hb (by omega)
  replace cq15 := cs_below cq15 hb (by omega)
  replace HBa := HBa.trans (hb.mono (by omega))
  replace zs := Nat.lt_of_lt_of_le zs hb.size
  clear hb
  clear AC
  go_upto_region 9 with fail
  refine opq (fun wx => Cs wx (w.heap.size) 6 V ∧ Cs wx (w.heap.size + 1) 6 W ∧ Cs wx (w.heap.size + 1 + 1) 6 U ∧ Cs wx (q6) 6 C ∧ Cs wx (q10) 6 D ∧ Cs wx (q15) 2 (fq2 x1 x2) ∧ Cs wx v18.heap.size 2 (fq2 y1 y2) ∧ v18.heap.size < wx.heap.size ∧ Below w.heap.size w wx) ?_ ?_
  · have zb := HBa.size
    exact ⟨kc, kc, kc, kc, kc, kc, by (intro o ho; rcases (show o = 0 ∨ o = 1 by omega) with rfl | rfl <;> simp [fq2, fq6, go_sem]), by simp [World.setCell], kg⟩
  have y21 := zs
  clear cV cW cU cq6 cq10 cq15 HBa zs
  generalize hq : v18.heap.size = q19 at *
  clear hq
  rintro u20 ⟨cV, cW, cU, cq6, cq10, cq15, cq19, zs, HBa⟩
  clear K4
  go_step
  have hV : ∀ o, o < 6 → u20.cell? ⟨w.heap.size + 1 + 1, o, none⟩ = some (.int .i64 (U o)) := cU
  refine wpList_plain rfl (fun K hK => ?_)
  go_big_op
  refine hK _ _ ?_
  clear hK K
  clear hV
  have hV : ∀ o, o < 6 → u20.cell? ⟨q6, o, none⟩ = some (.int .i64 (C o)) := cq6
  refine wpList_plain rfl (fun K hK => ?_)
  go_big_op
  refine hK _ _ ?_
  clear hK K
  clear hV
  have AC := K5.out
  refine wpList_plain rfl (fun K hK => ?_)
  go_big_op
  with_reducible refine (AC _).mono ?_
  rintro e v22 ⟨rfl, hb⟩
  simp only []
  refine hK _ _ ?_
  clear hK K
  replace cV := cs_below cV hb (by omega)
  replace cW := cs_below cW hb (by omega)
  replace cU := cs_below cU hb (by omega)
  replace cq6 := cs_below cq6 hb (by omega)
  replace cq10 := cs_below cq10 hb (by omega)
  replace cq15 := cs_below cq15 hb (by omega)
  replace cq19 := cs_below cq19 hb (by omega)
  replace HBa := HBa.trans (hb.mono (by omega))
  replace zs := Nat.lt_of_lt_of_le zs hb.size
  clear hb
  clear AC
  go_upto_region 10 with fail
  refine opq (fun wx => Cs wx (w.heap.size) 6 V ∧ Cs wx (w.heap.size + 1) 6 W ∧ Cs wx (w.heap.size + 1 + 1) 6 U ∧ Cs wx (q6) 6 C ∧ Cs wx (q10) 6 D ∧ Cs wx (q15) 2 (fq2 x1 x2) ∧ Cs wx (q19) 2 (fq2 y1 y2) ∧ Cs wx v22.heap.size 2 (fq2 z1 z2) ∧ v22.heap.size < wx.heap.size ∧ Below w.heap.size w wx) ?_ ?_
  · have zb := HBa.size
    exact ⟨kc, kc, kc, kc, kc, kc, kc, by (intro o ho; rcases (show o = 0 ∨ o = 1 by omega) with rfl | rfl <;> simp [fq2, fq6, go_sem]), by simp [World.setCell], kg⟩
  have y25 := zs
  clear cV cW cU cq6 cq10 cq15 cq19 HBa zs
  generalize hq : v22.heap.size = q23 at *
  clear hq
  rintro u24 ⟨cV, cW, cU, cq6, cq10, cq15, cq19, cq23, zs, HBa⟩
  clear K5
  go_step
  have hU : ∀ o, o < 6 → u24.cell? ⟨w.heap.size + 1 + 1, o, none⟩ = some (.int .i64 (U o)) := cU
  have hV : ∀ o, o < 6 → u24.cell? ⟨w.heap.size, o, none⟩ = some (.int .i64 (V o)) := cV
  have hW : ∀ o, o < 6 → u24.cell? ⟨w.heap.size + 1, o, none⟩ = some (.int .i64 (W o)) := cW
  refine wpList_plain rfl (fun K hK => ?_)
  go_big_op
  refine hK _ _ ?_
  clear hK K
  refine wpList_plain rfl (fun K hK => ?_)
  go_big_op
  refine hK _ _ ?_
  clear hK K
  refine wpList_plain rfl (fun K hK => ?_)
  go_big_op
  refine hK _ _ ?_
  clear hK K
  refine wpList_plain rfl (fun K hK => ?_)
  go_big_op
  refine hK _ _ ?_
  clear hK K
  refine wpList_plain rfl (fun K hK => ?_)
  go_big_op
  refine hK _ _ ?_
  clear hK K
  refine wpList_plain rfl (fun K hK => ?_)
  go_big_op
  refine hK _ _ ?_
  clear hK K
  refine wpList_plain rfl (fun K hK => ?_)
  go_big_op
  refine hK _ _ ?_
  clear hK K
  refine wpList_plain rfl (fun K hK => ?_)
  go_big_op
  refine hK _ _ ?_
  clear hK K
  refine wpList_plain rfl (fun K hK => ?_)
  go_big_op
  refine hK _ _ ?_
  clear hK K
  refine wpList_plain rfl (fun K hK => ?_)
  go_big_op
  refine hK _ _ ?_
  clear hK K
  refine wpList_plain rfl (fun K hK => ?_)
  go_big_op
  refine hK _ _ ?_
  clear hK K
  refine wpList_plain rfl (fun K hK => ?_)
  go_big_op
  refine hK _ _ ?_
  clear hK K
  refine wpList_plain rfl (fun K hK => ?_)
  go_big_op
  refine hK _ _ ?_
  clear hK K
  refine wpList_plain rfl (fun K hK => ?_)
  go_big_op
  refine hK _ _ ?_
  clear hK K
  refine wpList_plain rfl (fun K hK => ?_)
  go_big_op
  refine hK _ _ ?_
  clear hK K
  refine wpList_plain rfl (fun K hK => ?_)
  go_big_op
  refine hK _ _ ?_
  clear hK K
  refine wpList_plain rfl (fun K hK => ?_)
  go_big_op
  refine hK _ _ ?_
  clear hK K
  refine wpList_plain rfl (fun K hK => ?_)
  go_big_op
  refine hK _ _ ?_
  clear hK K
  refine wpList_plain rfl (fun K hK => ?_)
  go_big_op
  refine hK _ _ ?_
  clear hK K
  refine wpList_plain rfl (fun K hK => ?_)
  go_big_op
  refine hK _ _ ?_
  clear hK K
  refine wpList_plain rfl (fun K hK => ?_)
  go_big_op
  refine hK _ _ ?_
  clear hK K
  refine wpList_plain rfl (fun K hK => ?_)
  go_big_op
  refine hK _ _ ?_
  clear hK K
  refine wpList_plain rfl (fun K hK => ?_)
  go_big_op
  refine hK _ _ ?_
  clear hK K
  clear hU hV hW
  refine store18 (.tmp 17) (.tmp 101) u24.heap.size (m3 U V W) (fun _ => 0) (cs_new rfl arr0) (fs_new rfl) rfl rfl rfl rfl ?_
  intro um cm fR sX bX
  have hb := bX u24.heap.size u24 (Nat.le_refl _) (bal (b0 _) _)
  have zm : u24.heap.size < um.heap.size := by rw [sX]; simp
  have ym := zs
  replace cV := cs_below cV hb (by omega)
  replace cW := cs_below cW hb (by omega)
  replace cU := cs_below cU hb (by omega)
  replace cq6 := cs_below cq6 hb (by omega)
  replace cq10 := cs_below cq10 hb (by omega)
  replace cq15 := cs_below cq15 hb (by omega)
  replace cq19 := cs_below cq19 hb (by omega)
  replace cq23 := cs_below cq23 hb (by omega)
  replace HBa := HBa.trans (hb.mono (by omega))
  replace zs := Nat.lt_of_lt_of_le zs hb.size
  replace zs := zm
  clear zm hb bX sX fR
  generalize hq : u24.heap.size = qm at *
  clear hq
  go_upto_region 11 with fail
  go_step
  refine load18 (.tmp 17) _ (m3 U V W) cm rfl rfl rfl ?_
  simp only [putA]
  have AC := K6.out
  refine wpList_plain rfl (fun K hK => ?_)
  go_big_op
  with_reducible refine (AC _).mono ?_
  rintro e v26 ⟨rfl, hb⟩
  simp only []
  refine hK _ _ ?_
  clear hK K
  replace cV := cs_below cV hb (by omega)
  replace cW := cs_below cW hb (by omega)
  replace cU := cs_below cU hb (by omega)
  replace cq6 := cs_below cq6 hb (by omega)
  replace cq10 := cs_below cq10 hb (by omega)
  replace cq15 := cs_below cq15 hb (by omega)
  replace cq19 := cs_below cq19 hb (by omega)
  replace cq23 := cs_below cq23 hb (by omega)
  replace cm := cs_below cm hb (by omega)
  replace HBa := HBa.trans (hb.mono (by omega))
  replace zs := Nat.lt_of_lt_of_le zs hb.size
  clear hb
  clear AC
  go_upto_region 12 with fail
  refine opq (fun wx => Cs wx (w.heap.size) 6 V ∧ Cs wx (w.heap.size + 1) 6 W ∧ Cs wx (w.heap.size + 1 + 1) 6 U ∧ Cs wx (q6) 6 C ∧ Cs wx (q10) 6 D ∧ Cs wx (q15) 2 (fq2 x1 x2) ∧ Cs wx (q19) 2 (fq2 y1 y2) ∧ Cs wx (q23) 2 (fq2 z1 z2) ∧ Cs wx (qm) 18 (m3 U V W) ∧ Cs wx v26.heap.size 2 (fq2 d1 d2) ∧ v26.heap.size < wx.heap.size ∧ Below w.heap.size w wx) ?_ ?_
  · have zb := HBa.size
    exact ⟨kc, kc, kc, kc, kc, kc, kc, kc, kc, by (intro o ho; rcases (show o = 0 ∨ o = 1 by omega) with rfl | rfl <;> simp [fq2, fq6, go_sem]), by simp [World.setCell], kg⟩
  have y29 := zs
  clear cV cW cU cq6 cq10 cq15 cq19 cq23 cm HBa zs
  generalize hq : v26.heap.size = q27 at *
  clear hq
  rintro u28 ⟨cV, cW, cU, cq6, cq10, cq15, cq19, cq23, cm, cq27, zs, HBa⟩
  clear K6
  go_step
  refine load18 (.tmp 17) _ (m3 U V W) cm rfl rfl rfl ?_
  simp only [putA]
  have AC := K7.out
  refine wpList_plain rfl (fun K hK => ?_)
  go_big_op
  with_reducible refine (AC _).mono ?_
  rintro e v30 ⟨rfl, hb⟩
  simp only []
  refine hK _ _ ?_
  clear hK K
  replace cV := cs_below cV hb (by omega)
  replace cW := cs_below cW hb (by omega)
  replace cU := cs_below cU hb (by omega)
  replace cq6 := cs_below cq6 hb (by omega)
  replace cq10 := cs_below cq10 hb (by omega)
  replace cq15 := cs_below cq15 hb (by omega)
  replace cq19 := cs_below cq19 hb (by omega)
  replace cq23 := cs_below cq23 hb (by omega)
  replace cm := cs_below cm hb (by omega)
  replace cq27 := cs_below cq27 hb (by omega)
  replace HBa := HBa.trans (hb.mono (by omega))
  replace zs := Nat.lt_of_lt_of_le zs hb.size
  clear hb
  clear AC
  refine wpList_plain rfl (fun K hK => ?_)
  go_big_op
  refine hK _ _ ?_
  clear hK K
  refine wpList_plain rfl (fun K hK => ?_)
  go_big_op
  refine hK _ _ ?_
  clear hK K
  refine wpList_plain rfl (fun K hK => ?_)
  go_big_op
  refine hK _ _ ?_
  clear hK K
  refine wpList_plain rfl (fun K hK => ?_)
  go_big_op
  refine hK _ _ ?_
  clear hK K
  refine store18 (.tmp 20) (.tmp 110) v30.heap.size F (fun _ => 0) (cs_new rfl arr0) (fs_new rfl) rfl rfl rfl rfl ?_
  intro u32 cq31 fR sX bX
  have hb := bX v30.heap.size v30 (Nat.le_refl _) (bal (b0 _) _)
  have zq31 : v30.heap.size < u32.heap.size := by rw [sX]; simp
  have y33 := zs
  replace cV := cs_below cV hb (by omega)
  replace cW := cs_below cW hb (by omega)
  replace cU := cs_below cU hb (by omega)
  replace cq6 := cs_below cq6 hb (by omega)
  replace cq10 := cs_below cq10 hb (by omega)
  replace cq15 := cs_below cq15 hb (by omega)
  replace cq19 := cs_below cq19 hb (by omega)
  replace cq23 := cs_below cq23 hb (by omega)
  replace cm := cs_below cm hb (by omega)
  replace cq27 := cs_below cq27 hb (by omega)
  replace HBa := HBa.trans (hb.mono (by omega))
  replace zs := Nat.lt_of_lt_of_le zs hb.size
  replace zs := zq31
  clear zq31 hb bX sX fR
  generalize hq : v30.heap.size = q31 at *
  clear hq
  go_upto_region 13 with fail
  generalize (.tuple #[.agg #[.int .i64 (F 0), .int .i64 (F 1), .int .i64 (F 2), .int .i64 (F 3), .int .i64 (F 4), .int .i64 (F 5), .int .i64 (F 6), .int .i64 (F 7), .int .i64 (F 8), .int .i64 (F 9), .int .i64 (F 10), .int .i64 (F 11), .int .i64 (F 12), .int .i64 (F 13), .int .i64 (F 14), .int .i64 (F 15), .int .i64 (F 16), .int .i64 (F 17)], .int .i64 0] : Value) = x34
  generalize (.agg #[.int .i64 (F 0), .int .i64 (F 1), .int .i64 (F 2), .int .i64 (F 3), .int .i64 (F 4), .int .i64 (F 5), .int .i64 (F 6), .int .i64 (F 7), .int .i64 (F 8), .int .i64 (F 9), .int .i64 (F 10), .int .i64 (F 11), .int .i64 (F 12), .int .i64 (F 13), .int .i64 (F 14), .int .i64 (F 15), .int .i64 (F 16), .int .i64 (F 17)] : Value) = x35
  clear K7
  go_step
  refine load18 (.tmp 20) _ F cq31 rfl rfl rfl ?_
  simp only [putA]
  have AC := K8.out
  refine wpList_plain rfl (fun K hK => ?_)
  go_big_op
  with_reducible refine (AC _).mono ?_
  rintro e v36 ⟨rfl, hb⟩
  simp only []
  refine hK _ _ ?_
  clear hK K
  replace cV := cs_below cV hb (by omega)
  replace cW := cs_below cW hb (by omega)
  replace cU := cs_below cU hb (by omega)
  replace cq6 := cs_below cq6 hb (by omega)
  replace cq10 := cs_below cq10 hb (by omega)
  replace cq15 := cs_below cq15 hb (by omega)
  replace cq19 := cs_below cq19 hb (by omega)
  replace cq23 := cs_below cq23 hb (by omega)
  replace cm := cs_below cm hb (by omega)
  replace cq27 := cs_below cq27 hb (by omega)
  replace cq31 := cs_below cq31 hb (by omega)
  replace HBa := HBa.trans (hb.mono (by omega))
  replace zs := Nat.lt_of_lt_of_le zs hb.size
  clear hb
  clear AC
  go_upto_region 14 with fail
  refine opq (fun wx => Cs wx (w.heap.size) 6 V ∧ Cs wx (w.heap.size + 1) 6 W ∧ Cs wx (w.heap.size + 1 + 1) 6 U ∧ Cs wx (q6) 6 C ∧ Cs wx (q10) 6 D ∧ Cs wx (q15) 2 (fq2 x1 x2) ∧ Cs wx (q19) 2 (fq2 y1 y2) ∧ Cs wx (q23) 2 (fq2 z1 z2) ∧ Cs wx (qm) 18 (m3 U V W) ∧ Cs wx (q27) 2 (fq2 d1 d2) ∧ Cs wx (q31) 18 F ∧ Cs wx v36.heap.size 2 (fq2 t1 t2) ∧ v36.heap.size < wx.heap.size ∧ Below w.heap.size w wx) ?_ ?_
  · have zb := HBa.size
    exact ⟨kc, kc, kc, kc, kc, kc, kc, kc, kc, kc, kc, by (intro o ho; rcases (show o = 0 ∨ o = 1 by omega) with rfl | rfl <;> simp [fq2, fq6, go_sem]), by simp [World.setCell], kg⟩
  have y39 := zs
  clear cV cW cU cq6 cq10 cq15 cq19 cq23 cm cq27 cq31 HBa zs
  generalize hq : v36.heap.size = q37 at *
  clear hq
  rintro u38 ⟨cV, cW, cU, cq6, cq10, cq15, cq19, cq23, cm, cq27, cq31, cq37, zs, HBa⟩
  clear K8
  rcases E1.out with rfl | rfl
  · rcases E2.out with rfl | rfl
    · rcases E3.out with rfl | rfl
      · by_cases k4 : e4 = 0
        · subst k4
          by_cases k5 : e5 = 0
          · subst k5
            obtain ⟨k1, k2, k3, k4, k5, k6, k7, k8⟩ := HK.out rfl rfl rfl rfl rfl
            subst k1 k2 k3 k4 k5 k6 k7 k8
            clear HK
            go_upto_region 16 with fail
            go_step
            refine wpList_plain rfl (fun K hK => ?_)
            go_big_op
            with_reducible refine ((ref_Of 0) _).mono ?_
            rintro e v90 ⟨rfl, hb⟩
            simp only []
            refine hK _ _ ?_
            clear hK K
            replace cV := cs_below cV hb (by omega)
            replace cW := cs_below cW hb (by omega)
            replace cU := cs_below cU hb (by omega)
            replace cq6 := cs_below cq6 hb (by omega)
            replace cq10 := cs_below cq10 hb (by omega)
            replace cq15 := cs_below cq15 hb (by omega)
            replace cq19 := cs_below cq19 hb (by omega)
            replace cq23 := cs_below cq23 hb (by omega)
            replace cm := cs_below cm hb (by omega)
            replace cq27 := cs_below cq27 hb (by omega)
            replace cq31 := cs_below cq31 hb (by omega)
            replace cq37 := cs_below cq37 hb (by omega)
            replace HBa := HBa.trans (hb.mono (by omega))
            replace zs := Nat.lt_of_lt_of_le zs hb.size
            clear hb
            go_upto_region 17 with fail
            refine opq (fun wx => Cs wx (w.heap.size) 6 V ∧ Cs wx (w.heap.size + 1) 6 W ∧ Cs wx (w.heap.size + 1 + 1) 6 U ∧ Cs wx (q6) 6 C ∧ Cs wx (q10) 6 D ∧ Cs wx (q15) 2 (fq2 0 1) ∧ Cs wx (q19) 2 (fq2 0 1) ∧ Cs wx (q23) 2 (fq2 t1 t2) ∧ Cs wx (qm) 18 (m3 U V W) ∧ Cs wx (q27) 2 (fq2 t1 t2) ∧ Cs wx (q31) 18 F ∧ Cs wx (q37) 2 (fq2 t1 t2) ∧ Cs wx v90.heap.size 2 (fq2 0 1) ∧ v90.heap.size < wx.heap.size ∧ Below w.heap.size w wx) ?_ ?_
            · have zb := HBa.size
              exact ⟨kc, kc, kc, kc, kc, kc, kc, kc, kc, kc, kc, kc, by (intro o ho; rcases (show o = 0 ∨ o = 1 by omega) with rfl | rfl <;> simp [fq2, fq6, go_sem]), by simp [World.setCell], kg⟩
            have y93 := zs
            clear cV cW cU cq6 cq10 cq15 cq19 cq23 cm cq27 cq31 cq37 HBa zs
            generalize hq : v90.heap.size = q91 at *
            clear hq
            rintro u92 ⟨cV, cW, cU, cq6, cq10, cq15, cq19, cq23, cm, cq27, cq31, cq37, cq91, zs, HBa⟩
            have h11 : ∀ o, o < 2 → u92.cell? ⟨q15, o, none⟩ = some (.int .i64 ((fq2 0 1) o)) := cq15
            have h13 : ∀ o, o < 2 → u92.cell? ⟨q19, o, none⟩ = some (.int .i64 ((fq2 0 1) o)) := cq19
            have h15 : ∀ o, o < 2 → u92.cell? ⟨q23, o, none⟩ = some (.int .i64 ((fq2 t1 t2) o)) := cq23
            have h18 : ∀ o, o < 2 → u92.cell? ⟨q27, o, none⟩ = some (.int .i64 ((fq2 t1 t2) o)) := cq27
            have h22 : ∀ o, o < 2 → u92.cell? ⟨q37, o, none⟩ = some (.int .i64 ((fq2 t1 t2) o)) := cq37
            have h24 : ∀ o, o < 2 → u92.cell? ⟨q91, o, none⟩ = some (.int .i64 ((fq2 0 1) o)) := cq91
            have e0 : fq2 0 1 0 = 0 := rfl
            have e1 : fq2 0 1 1 = 1 := rfl
            have e2 : fq2 t1 t2 0 = t1 := rfl
            have e3 : fq2 t1 t2 1 = t2 := rfl
            go_wp2_with fail
            with_reducible refine (AL.out _).mono ?_
            rintro e z1 ⟨rfl, hb⟩
            go_wp2_with fail
            go_ret
            exact ⟨rfl, HBa.trans (hb.mono (by omega))⟩
          · have g5 : (e5 == 0) = false := by simpa using k5
            clear HK
            go_wp2_with fail
            with_reducible refine (AL.out _).mono ?_
            rintro e z1 ⟨rfl, hb⟩
            go_wp2_with fail
            go_ret
            exact ⟨rfl, HBa.trans (hb.mono (by omega))⟩
        · have g4 : (e4 == 0) = false := by simpa using k4
          clear HK
          go_wp2_with fail
          with_reducible refine (AL.out _).mono ?_
          rintro e z1 ⟨rfl, hb⟩
          go_wp2_with fail
          go_ret
          exact ⟨rfl, HBa.trans (hb.mono (by omega))⟩
      · clear HK
        go_wp2_with fail
        with_reducible refine (AL.out _).mono ?_
        rintro e z1 ⟨rfl, hb⟩
        go_wp2_with fail
        go_ret
        exact ⟨rfl, HBa.trans (hb.mono (by omega))⟩
    · rcases E3.out with rfl | rfl
      · clear HK
        go_wp2_with fail
        with_reducible refine (AL.out _).mono ?_
        rintro e z1 ⟨rfl, hb⟩
        go_wp2_with fail
        go_ret
        exact ⟨rfl, HBa.trans (hb.mono (by omega))⟩
      · clear HK
        go_wp2_with fail
        with_reducible refine (AL.out _).mono ?_
        rintro e z1 ⟨rfl, hb⟩
        go_wp2_with fail
        go_ret
        exact ⟨rfl, HBa.trans (hb.mono (by omega))⟩
  · rcases E2.out with rfl | rfl
    · rcases E3.out with rfl | rfl
      · clear HK
        go_wp2_with fail
        with_reducible refine (AL.out _).mono ?_
        rintro e z1 ⟨rfl, hb⟩
        go_wp2_with fail
        go_ret
        exact ⟨rfl, HBa.trans (hb.mono (by omega))⟩
      · clear HK
        go_wp2_with fail
        with_reducible refine (AL.out _).mono ?_
        rintro e z1 ⟨rfl, hb⟩
        go_wp2_with fail
        go_ret
        exact ⟨rfl, HBa.trans (hb.mono (by omega))⟩
    · rcases E3.out with rfl | rfl
      · clear HK
        go_wp2_with fail
        with_reducible refine (AL.out _).mono ?_
        rintro e z1 ⟨rfl, hb⟩
        go_wp2_with fail
        go_ret
        exact ⟨rfl, HBa.trans (hb.mono (by omega))⟩
      · clear HK
        go_wp2_with fail
        with_reducible refine (AL.out _).mono ?_
        rintro e z1 ⟨rfl, hb⟩
        go_wp2_with fail
        go_ret
        exact ⟨rfl, HBa.trans (hb.mono (by omega))⟩
end Go.Proofs.Ytlijkebdaalldaa
