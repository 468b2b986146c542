/-
  Package vec: Is.
-/
import Derived.Test.YtdolfdmgdknboaaKu
import Derived.Test.YtdolfdmgdknboaaMA
import Derived.Test.YtdolfdmgdknboaaMB
import Derived.Test.YtdolfdmgdknboaaMG
namespace Go.Proofs.Ytdolfdmgdknboaa
open Go.RowKit
set_option linter.unusedVariables false
set_option linter.unusedSimpArgs false

set_option maxRecDepth 100000 in
set_option maxHeartbeats 6400000 in
theorem vec_is_chk (M : Nat → Int) (hb : okCM M) (ho : ¬ okM M)  (w : World) :
    Calls Try.prog 20 #[.agg #[.int .i64 (M 0), .int .i64 (M 1), .int .i64 (M 2), .int .i64 (M 3), .int .i64 (M 4), .int .i64 (M 5), .int .i64 (M 6), .int .i64 (M 7), .int .i64 (M 8), .int .i64 (M 9), .int .i64 (M 10), .int .i64 (M 11), .int .i64 (M 12), .int .i64 (M 13), .int .i64 (M 14), .int .i64 (M 15), .int .i64 (M 16), .int .i64 (M 17)]] w fun x w' => x = .returned (.tuple #[.bool false, .int .i64 8]) ∧ Below w.heap.size w w' := by
  have CK := fun W g h1 h2 => check_mat M hb W g h1 h2
  rw [chM_bad ho] at CK
  clear hb ho
  have xR := xRul
  have dz1 := dzA
  have dz2 := dzB
  go_enter Try.func20, Try.ntmps20
  go_upto_region 1 with fail
  refine opq (fun wx => Cs wx w.heap.size 18 M ∧ w.heap.size < wx.heap.size ∧ Below w.heap.size w wx) ?_ ?_
  · exact ⟨cs_new rfl (arrM M), by simp, kb⟩
  rintro wz ⟨cM, zs, HBa⟩
  have hM : ∀ o, o < 18 → wz.cell? ⟨w.heap.size, o, none⟩ = some (.int .i64 (M o)) := cM
  go_wp2_with fail
  with_reducible refine (CK _ _ (by omega) hM).mono ?_
  rintro e w1 ⟨rfl, hb⟩
  clear hM CK
  replace cM := cs_below cM hb (by omega)
  replace HBa := HBa.trans (hb.mono (by omega))
  replace zs := Nat.lt_of_lt_of_le zs hb.size
  clear hb
  go_wp2
  refine bodyPost_ret (by simp [results, Try.results20, go_sem, ext_cell, kp, *]; try rfl) rfl ?_
  exact ⟨rfl, kb⟩

set_option maxRecDepth 100000 in
set_option maxHeartbeats 6400000 in
theorem vec_is_e1 (M : Nat → Int) (hb : okCM M) (ho : okM M) (R : Nat → Int) (e1 : Int) (h1 : (e1 == 0) = false) (DT : ∀ w : World, Calls Try.prog 53 #[.agg #[.int .i64 (M 0), .int .i64 (M 1), .int .i64 (M 2), .int .i64 (M 3), .int .i64 (M 4), .int .i64 (M 5), .int .i64 (M 6), .int .i64 (M 7), .int .i64 (M 8), .int .i64 (M 9), .int .i64 (M 10), .int .i64 (M 11), .int .i64 (M 12), .int .i64 (M 13), .int .i64 (M 14), .int .i64 (M 15), .int .i64 (M 16), .int .i64 (M 17)], .agg #[.int .i64 (M 0), .int .i64 (M 1), .int .i64 (M 2), .int .i64 (M 3), .int .i64 (M 4), .int .i64 (M 5), .int .i64 (M 6), .int .i64 (M 7), .int .i64 (M 8), .int .i64 (M 9), .int .i64 (M 10), .int .i64 (M 11), .int .i64 (M 12), .int .i64 (M 13), .int .i64 (M 14), .int .i64 (M 15), .int .i64 (M 16), .int .i64 (M 17)]] w fun x w' => x = .returned (.tuple #[.agg #[.int .i64 (R 0), .int .i64 (R 1), .int .i64 (R 2), .int .i64 (R 3), .int .i64 (R 4), .int .i64 (R 5), .int .i64 (R 6), .int .i64 (R 7), .int .i64 (R 8), .int .i64 (R 9), .int .i64 (R 10), .int .i64 (R 11), .int .i64 (R 12), .int .i64 (R 13), .int .i64 (R 14), .int .i64 (R 15), .int .i64 (R 16), .int .i64 (R 17)], .int .i64 e1]) ∧ Below w.heap.size w w') (w : World) :
    Calls Try.prog 20 #[.agg #[.int .i64 (M 0), .int .i64 (M 1), .int .i64 (M 2), .int .i64 (M 3), .int .i64 (M 4), .int .i64 (M 5), .int .i64 (M 6), .int .i64 (M 7), .int .i64 (M 8), .int .i64 (M 9), .int .i64 (M 10), .int .i64 (M 11), .int .i64 (M 12), .int .i64 (M 13), .int .i64 (M 14), .int .i64 (M 15), .int .i64 (M 16), .int .i64 (M 17)]] w fun x w' => x = .returned (.tuple #[.bool false, .int .i64 e1]) ∧ Below w.heap.size w w' := by
  have CK := fun W g h1 h2 => check_mat M hb W g h1 h2
  rw [chM_ok ho] at CK
  clear hb ho
  have xR := xRul
  have dz1 := dzA
  have dz2 := dzB
  go_enter Try.func20, Try.ntmps20
  go_upto_region 1 with fail
  refine opq (fun wx => Cs wx w.heap.size 18 M ∧ w.heap.size < wx.heap.size ∧ Below w.heap.size w wx) ?_ ?_
  · exact ⟨cs_new rfl (arrM M), by simp, kb⟩
  rintro wz ⟨cM, zs, HBa⟩
  have hM : ∀ o, o < 18 → wz.cell? ⟨w.heap.size, o, none⟩ = some (.int .i64 (M o)) := cM
  go_wp2_with fail
  with_reducible refine (CK _ _ (by omega) hM).mono ?_
  rintro e w1 ⟨rfl, hb⟩
  clear hM CK
  replace cM := cs_below cM hb (by omega)
  replace HBa := HBa.trans (hb.mono (by omega))
  replace zs := Nat.lt_of_lt_of_le zs hb.size
  clear hb
  go_upto_region 4 with fail
  go_step
  refine load18 (.tmp 1) _ M cM rfl rfl rfl ?_
  simp only [putA]
  refine load18 (.tmp 1) _ M cM rfl rfl rfl ?_
  simp only [putA]
  refine wpList_plain rfl (fun K hK => ?_)
  go_big_op
  with_reducible refine (DT _).mono ?_
  rintro e w2 ⟨rfl, hb⟩
  simp only []
  refine hK _ _ ?_
  clear hK K
  replace cM := cs_below cM hb (by omega)
  replace HBa := HBa.trans (hb.mono (by omega))
  replace zs := Nat.lt_of_lt_of_le zs hb.size
  clear hb DT
  refine wpList_plain rfl (fun K hK => ?_)
  go_big_op
  refine hK _ _ ?_
  clear hK K
  refine wpList_plain rfl (fun K hK => ?_)
  go_big_op
  refine hK _ _ ?_
  clear hK K
  refine wpList_plain rfl (fun K hK => ?_)
  go_big_op
  refine hK _ _ ?_
  clear hK K
  refine wpList_plain rfl (fun K hK => ?_)
  go_big_op
  refine hK _ _ ?_
  clear hK K
  refine store18 (.tmp 5) (.tmp 17) w2.heap.size R (fun _ => 0) (cs_new rfl arr0) (fs_new rfl) rfl rfl rfl rfl ?_
  intro wa cR fR sX bX
  have hb := bX w2.heap.size w2 (Nat.le_refl _) (bal (b0 _) _)
  have zq : w2.heap.size < wa.heap.size := by rw [sX]; simp
  replace cM := cs_below cM hb (by omega)
  replace HBa := HBa.trans (hb.mono (by omega))
  replace zs := Nat.lt_of_lt_of_le zs hb.size
  clear hb bX sX fR
  generalize w2.heap.size = q at *
  go_wp2
  refine bodyPost_ret (by simp [results, Try.results20, go_sem, ext_cell, kp, *]; try rfl) rfl ?_
  exact ⟨rfl, kb⟩

set_option maxRecDepth 100000 in
set_option maxHeartbeats 6400000 in
theorem vec_is_e2 (M : Nat → Int) (hb : okCM M) (ho : okM M) (R : Nat → Int) (d1 d2 e2 : Int) (h2 : (e2 == 0) = false) (DT : ∀ w : World, Calls Try.prog 53 #[.agg #[.int .i64 (M 0), .int .i64 (M 1), .int .i64 (M 2), .int .i64 (M 3), .int .i64 (M 4), .int .i64 (M 5), .int .i64 (M 6), .int .i64 (M 7), .int .i64 (M 8), .int .i64 (M 9), .int .i64 (M 10), .int .i64 (M 11), .int .i64 (M 12), .int .i64 (M 13), .int .i64 (M 14), .int .i64 (M 15), .int .i64 (M 16), .int .i64 (M 17)], .agg #[.int .i64 (M 0), .int .i64 (M 1), .int .i64 (M 2), .int .i64 (M 3), .int .i64 (M 4), .int .i64 (M 5), .int .i64 (M 6), .int .i64 (M 7), .int .i64 (M 8), .int .i64 (M 9), .int .i64 (M 10), .int .i64 (M 11), .int .i64 (M 12), .int .i64 (M 13), .int .i64 (M 14), .int .i64 (M 15), .int .i64 (M 16), .int .i64 (M 17)]] w fun x w' => x = .returned (.tuple #[.agg #[.int .i64 (R 0), .int .i64 (R 1), .int .i64 (R 2), .int .i64 (R 3), .int .i64 (R 4), .int .i64 (R 5), .int .i64 (R 6), .int .i64 (R 7), .int .i64 (R 8), .int .i64 (R 9), .int .i64 (R 10), .int .i64 (R 11), .int .i64 (R 12), .int .i64 (R 13), .int .i64 (R 14), .int .i64 (R 15), .int .i64 (R 16), .int .i64 (R 17)], .int .i64 0]) ∧ Below w.heap.size w w') (DE : ∀ w : World, Calls Try.prog 56 #[.agg #[.int .i64 (M 0), .int .i64 (M 1), .int .i64 (M 2), .int .i64 (M 3), .int .i64 (M 4), .int .i64 (M 5), .int .i64 (M 6), .int .i64 (M 7), .int .i64 (M 8), .int .i64 (M 9), .int .i64 (M 10), .int .i64 (M 11), .int .i64 (M 12), .int .i64 (M 13), .int .i64 (M 14), .int .i64 (M 15), .int .i64 (M 16), .int .i64 (M 17)]] w fun x w' => x = .returned (.tuple #[.agg #[.int .i64 d1, .int .i64 d2], .int .i64 e2]) ∧ Below w.heap.size w w') (w : World) :
    Calls Try.prog 20 #[.agg #[.int .i64 (M 0), .int .i64 (M 1), .int .i64 (M 2), .int .i64 (M 3), .int .i64 (M 4), .int .i64 (M 5), .int .i64 (M 6), .int .i64 (M 7), .int .i64 (M 8), .int .i64 (M 9), .int .i64 (M 10), .int .i64 (M 11), .int .i64 (M 12), .int .i64 (M 13), .int .i64 (M 14), .int .i64 (M 15), .int .i64 (M 16), .int .i64 (M 17)]] w fun x w' => x = .returned (.tuple #[.bool false, .int .i64 e2]) ∧ Below w.heap.size w w' := by
  have CK := fun W g h1 h2 => check_mat M hb W g h1 h2
  rw [chM_ok ho] at CK
  clear hb ho
  have xR := xRul
  have dz1 := dzA
  have dz2 := dzB
  go_enter Try.func20, Try.ntmps20
  go_upto_region 1 with fail
  refine opq (fun wx => Cs wx w.heap.size 18 M ∧ w.heap.size < wx.heap.size ∧ Below w.heap.size w wx) ?_ ?_
  · exact ⟨cs_new rfl (arrM M), by simp, kb⟩
  rintro wz ⟨cM, zs, HBa⟩
  have hM : ∀ o, o < 18 → wz.cell? ⟨w.heap.size, o, none⟩ = some (.int .i64 (M o)) := cM
  go_wp2_with fail
  with_reducible refine (CK _ _ (by omega) hM).mono ?_
  rintro e w1 ⟨rfl, hb⟩
  clear hM CK
  replace cM := cs_below cM hb (by omega)
  replace HBa := HBa.trans (hb.mono (by omega))
  replace zs := Nat.lt_of_lt_of_le zs hb.size
  clear hb
  go_upto_region 4 with fail
  go_step
  refine load18 (.tmp 1) _ M cM rfl rfl rfl ?_
  simp only [putA]
  refine load18 (.tmp 1) _ M cM rfl rfl rfl ?_
  simp only [putA]
  refine wpList_plain rfl (fun K hK => ?_)
  go_big_op
  with_reducible refine (DT _).mono ?_
  rintro e w2 ⟨rfl, hb⟩
  simp only []
  refine hK _ _ ?_
  clear hK K
  replace cM := cs_below cM hb (by omega)
  replace HBa := HBa.trans (hb.mono (by omega))
  replace zs := Nat.lt_of_lt_of_le zs hb.size
  clear hb DT
  refine wpList_plain rfl (fun K hK => ?_)
  go_big_op
  refine hK _ _ ?_
  clear hK K
  refine wpList_plain rfl (fun K hK => ?_)
  go_big_op
  refine hK _ _ ?_
  clear hK K
  refine wpList_plain rfl (fun K hK => ?_)
  go_big_op
  refine hK _ _ ?_
  clear hK K
  refine wpList_plain rfl (fun K hK => ?_)
  go_big_op
  refine hK _ _ ?_
  clear hK K
  refine store18 (.tmp 5) (.tmp 17) w2.heap.size R (fun _ => 0) (cs_new rfl arr0) (fs_new rfl) rfl rfl rfl rfl ?_
  intro wa cR fR sX bX
  have hb := bX w2.heap.size w2 (Nat.le_refl _) (bal (b0 _) _)
  have zq : w2.heap.size < wa.heap.size := by rw [sX]; simp
  replace cM := cs_below cM hb (by omega)
  replace HBa := HBa.trans (hb.mono (by omega))
  replace zs := Nat.lt_of_lt_of_le zs hb.size
  clear hb bX sX fR
  generalize w2.heap.size = q at *
  go_upto_region 7 with fail
  go_step
  refine load18 (.tmp 1) _ M cM rfl rfl rfl ?_
  go_wp2_with fail
  with_reducible refine (DE _).mono ?_
  rintro e w3 ⟨rfl, hb⟩
  replace cM := cs_below cM hb (by omega)
  replace HBa := HBa.trans (hb.mono (by omega))
  replace zs := Nat.lt_of_lt_of_le zs hb.size
  replace cR := cs_below cR hb (by omega)
  replace zq := Nat.lt_of_lt_of_le zq hb.size
  clear hb DE
  go_wp2
  refine bodyPost_ret (by simp [results, Try.results20, go_sem, ext_cell, kp, *]; try rfl) rfl ?_
  exact ⟨rfl, kb⟩

set_option maxRecDepth 100000 in
set_option maxHeartbeats 6400000 in
theorem vec_is_tt (M : Nat → Int) (hb : okCM M) (ho : okM M) (R : Nat → Int) (d1 d2 : Int) (DT : ∀ w : World, Calls Try.prog 53 #[.agg #[.int .i64 (M 0), .int .i64 (M 1), .int .i64 (M 2), .int .i64 (M 3), .int .i64 (M 4), .int .i64 (M 5), .int .i64 (M 6), .int .i64 (M 7), .int .i64 (M 8), .int .i64 (M 9), .int .i64 (M 10), .int .i64 (M 11), .int .i64 (M 12), .int .i64 (M 13), .int .i64 (M 14), .int .i64 (M 15), .int .i64 (M 16), .int .i64 (M 17)], .agg #[.int .i64 (M 0), .int .i64 (M 1), .int .i64 (M 2), .int .i64 (M 3), .int .i64 (M 4), .int .i64 (M 5), .int .i64 (M 6), .int .i64 (M 7), .int .i64 (M 8), .int .i64 (M 9), .int .i64 (M 10), .int .i64 (M 11), .int .i64 (M 12), .int .i64 (M 13), .int .i64 (M 14), .int .i64 (M 15), .int .i64 (M 16), .int .i64 (M 17)]] w fun x w' => x = .returned (.tuple #[.agg #[.int .i64 (R 0), .int .i64 (R 1), .int .i64 (R 2), .int .i64 (R 3), .int .i64 (R 4), .int .i64 (R 5), .int .i64 (R 6), .int .i64 (R 7), .int .i64 (R 8), .int .i64 (R 9), .int .i64 (R 10), .int .i64 (R 11), .int .i64 (R 12), .int .i64 (R 13), .int .i64 (R 14), .int .i64 (R 15), .int .i64 (R 16), .int .i64 (R 17)], .int .i64 0]) ∧ Below w.heap.size w w') (DE : ∀ w : World, Calls Try.prog 56 #[.agg #[.int .i64 (M 0), .int .i64 (M 1), .int .i64 (M 2), .int .i64 (M 3), .int .i64 (M 4), .int .i64 (M 5), .int .i64 (M 6), .int .i64 (M 7), .int .i64 (M 8), .int .i64 (M 9), .int .i64 (M 10), .int .i64 (M 11), .int .i64 (M 12), .int .i64 (M 13), .int .i64 (M 14), .int .i64 (M 15), .int .i64 (M 16), .int .i64 (M 17)]] w fun x w' => x = .returned (.tuple #[.agg #[.int .i64 d1, .int .i64 d2], .int .i64 0]) ∧ Below w.heap.size w w') (U : ∀ w : World, Calls Try.prog 60 #[] w fun x w' => x = .returned (.agg #[.int .i64 (unP 0), .int .i64 (unP 1), .int .i64 (unP 2), .int .i64 (unP 3), .int .i64 (unP 4), .int .i64 (unP 5), .int .i64 (unP 6), .int .i64 (unP 7), .int .i64 (unP 8), .int .i64 (unP 9), .int .i64 (unP 10), .int .i64 (unP 11), .int .i64 (unP 12), .int .i64 (unP 13), .int .i64 (unP 14), .int .i64 (unP 15), .int .i64 (unP 16), .int .i64 (unP 17)]) ∧ Below w.heap.size w w') (W1 : ∀ w : World, Calls Try.prog 67 #[.int .i64 1] w fun x w' => x = .returned (.agg #[.int .i64 1, .int .i64 1]) ∧ Below w.heap.size w w') (hm : matB R unP = true) (q1 : (d1 = 1) = True) (q2 : (d2 = 1) = True) (w : World) :
    Calls Try.prog 20 #[.agg #[.int .i64 (M 0), .int .i64 (M 1), .int .i64 (M 2), .int .i64 (M 3), .int .i64 (M 4), .int .i64 (M 5), .int .i64 (M 6), .int .i64 (M 7), .int .i64 (M 8), .int .i64 (M 9), .int .i64 (M 10), .int .i64 (M 11), .int .i64 (M 12), .int .i64 (M 13), .int .i64 (M 14), .int .i64 (M 15), .int .i64 (M 16), .int .i64 (M 17)]] w fun x w' => x = .returned (.tuple #[.bool true, .int .i64 0]) ∧ Below w.heap.size w w' := by
  have CK := fun W g h1 h2 => check_mat M hb W g h1 h2
  rw [chM_ok ho] at CK
  clear hb ho
  have xR := xRul
  have dz1 := dzA
  have dz2 := dzB
  go_enter Try.func20, Try.ntmps20
  go_upto_region 1 with fail
  refine opq (fun wx => Cs wx w.heap.size 18 M ∧ w.heap.size < wx.heap.size ∧ Below w.heap.size w wx) ?_ ?_
  · exact ⟨cs_new rfl (arrM M), by simp, kb⟩
  rintro wz ⟨cM, zs, HBa⟩
  have hM : ∀ o, o < 18 → wz.cell? ⟨w.heap.size, o, none⟩ = some (.int .i64 (M o)) := cM
  go_wp2_with fail
  with_reducible refine (CK _ _ (by omega) hM).mono ?_
  rintro e w1 ⟨rfl, hb⟩
  clear hM CK
  replace cM := cs_below cM hb (by omega)
  replace HBa := HBa.trans (hb.mono (by omega))
  replace zs := Nat.lt_of_lt_of_le zs hb.size
  clear hb
  go_upto_region 4 with fail
  go_step
  refine load18 (.tmp 1) _ M cM rfl rfl rfl ?_
  simp only [putA]
  refine load18 (.tmp 1) _ M cM rfl rfl rfl ?_
  simp only [putA]
  refine wpList_plain rfl (fun K hK => ?_)
  go_big_op
  with_reducible refine (DT _).mono ?_
  rintro e w2 ⟨rfl, hb⟩
  simp only []
  refine hK _ _ ?_
  clear hK K
  replace cM := cs_below cM hb (by omega)
  replace HBa := HBa.trans (hb.mono (by omega))
  replace zs := Nat.lt_of_lt_of_le zs hb.size
  clear hb DT
  refine wpList_plain rfl (fun K hK => ?_)
  go_big_op
  refine hK _ _ ?_
  clear hK K
  refine wpList_plain rfl (fun K hK => ?_)
  go_big_op
  refine hK _ _ ?_
  clear hK K
  refine wpList_plain rfl (fun K hK => ?_)
  go_big_op
  refine hK _ _ ?_
  clear hK K
  refine wpList_plain rfl (fun K hK => ?_)
  go_big_op
  refine hK _ _ ?_
  clear hK K
  refine store18 (.tmp 5) (.tmp 17) w2.heap.size R (fun _ => 0) (cs_new rfl arr0) (fs_new rfl) rfl rfl rfl rfl ?_
  intro wa cR fR sX bX
  have hb := bX w2.heap.size w2 (Nat.le_refl _) (bal (b0 _) _)
  have zq : w2.heap.size < wa.heap.size := by rw [sX]; simp
  replace cM := cs_below cM hb (by omega)
  replace HBa := HBa.trans (hb.mono (by omega))
  replace zs := Nat.lt_of_lt_of_le zs hb.size
  clear hb bX sX fR
  generalize w2.heap.size = q at *
  go_upto_region 7 with fail
  go_step
  refine load18 (.tmp 1) _ M cM rfl rfl rfl ?_
  go_wp2_with fail
  with_reducible refine (DE _).mono ?_
  rintro e w3 ⟨rfl, hb⟩
  replace cM := cs_below cM hb (by omega)
  replace HBa := HBa.trans (hb.mono (by omega))
  replace zs := Nat.lt_of_lt_of_le zs hb.size
  replace cR := cs_below cR hb (by omega)
  replace zq := Nat.lt_of_lt_of_le zq hb.size
  clear hb DE
  go_upto_region 8 with fail
  refine opq (fun wx => Cs wx q 18 R ∧ wx.cell? ⟨w3.heap.size, 0, none⟩ = some (.int .i64 d1) ∧ wx.cell? ⟨w3.heap.size, 1, none⟩ = some (.int .i64 d2) ∧ w3.heap.size < wx.heap.size ∧ q < wx.heap.size ∧ Below w.heap.size w wx) ?_ ?_
  · exact ⟨kc, kk, kk, by simp [World.setCell], by (simp [World.setCell] <;> omega), kg⟩
  clear cM cR HBa zq zs
  generalize w3.heap.size = p at *
  rintro wb ⟨cR, k0, k1, zp, zq, HBa⟩
  have ME := fun w => mat_eq R unP w
  rw [hm] at ME
  clear hm
  go_wp2_with fail
  refine wp_region_held_drew (S := (fun w' => Below wb.heap.size wb w')) (by kernel_rfl) ?_ (fun hHeld => ?_)
  · exact Below.drew (Below.refl _ _)
  refine take18 0 (.tmp 5) q R rfl rfl (by kernel_rfl) (by kernel_rfl) (by kernel_rfl) (fun _ _ _ h => h) (by rfl) rfl (fun w k => cs_below cR k (by omega)) (by assumption) ?_
  try simp only [putA]
  refine wpAnyH_ready (rs := [1]) (by kernel_rfl) (by simp) ?_
  refine AllReadyH.cons (o := _) rfl (fun K hK => ?_) ?_
  · go_simp
    with_reducible refine (U _).mono ?_
    rintro e w' ⟨rfl, hb⟩
    obtain ⟨l9, d9, rfl⟩ := toExt hb
    clear hb
    (try go_wp2_with fail)
    refine hK.out _ _ ?_ (fun hHeld2 => ?_)
    · exact kg
    clear hK K hHeld
    have hHeld := hHeld2
    clear hHeld2
    try simp only [putA]
    refine wpAnyH_ready (rs := [2]) (by kernel_rfl) (by simp) ?_
    refine AllReadyH.cons (o := _) rfl (fun K hK => ?_) ?_
    · go_simp
      refine hK.out _ _ ?_ (fun hHeld2 => ?_)
      · exact kg
      clear hK K hHeld
      have hHeld := hHeld2
      clear hHeld2
      try simp only [putA]
      refine wpAnyH_take (i := 3) (oi := _) (v := ?_) rfl (by kernel_rfl) (by kernel_rfl) (by kernel_rfl) (fun _ _ _ h => h) (Or.inl ⟨by rfl, ?_⟩) (by assumption) ?_
      rotate_left
      · (intro w hSw; (try dsimp only at hSw); go_simp; (try with_reducible rfl))
      try simp only [putA]
      refine wpAnyH_ready (rs := [4, 5]) (by kernel_rfl) (by simp) ?_
      refine AllReadyH.cons (o := _) rfl (fun K hK => ?_) ?_
      · go_simp
        refine hK.out _ _ ?_ (fun hHeld2 => ?_)
        · exact kg
        clear hK K hHeld
        have hHeld := hHeld2
        clear hHeld2
        try simp only [putA]
        refine wpAnyH_ready (rs := [5]) (by kernel_rfl) (by simp) ?_
        refine AllReadyH.cons (o := _) rfl (fun K hK => ?_) ?_
        · go_simp
          with_reducible refine (W1 _).mono ?_
          rintro e w' ⟨rfl, hb⟩
          obtain ⟨l9, d9, rfl⟩ := toExt hb
          clear hb
          (try go_wp2_with fail)
          refine hK.out _ _ ?_ (fun hHeld2 => ?_)
          · exact kg
          clear hK K hHeld
          have hHeld := hHeld2
          clear hHeld2
          try simp only [putA]
          refine wpAnyH_ready (rs := [6]) (by kernel_rfl) (by simp) ?_
          refine AllReadyH.cons (o := _) rfl (fun K hK => ?_) ?_
          · go_simp
            refine hK.out _ _ ?_ (fun hHeld2 => ?_)
            · exact kg
            clear hK K hHeld
            have hHeld := hHeld2
            clear hHeld2
            try simp only [putA]
            refine wpAnyH_ready (rs := [7]) (by kernel_rfl) (by simp) ?_
            refine AllReadyH.cons (o := _) rfl (fun K hK => ?_) ?_
            · go_simp
              refine hK.out _ _ ?_ (fun hHeld2 => ?_)
              · exact kg
              clear hK K hHeld
              have hHeld := hHeld2
              clear hHeld2
              try simp only [putA]
              refine wpAnyH_ready (rs := [8]) (by kernel_rfl) (by simp) ?_
              refine AllReadyH.cons (o := _) rfl (fun K hK => ?_) ?_
              · go_simp
                refine hK.out _ _ ?_ (fun hHeld2 => ?_)
                · exact kg
                clear hK K hHeld
                have hHeld := hHeld2
                clear hHeld2
                try simp only [putA]
                refine wpAnyH_ready (rs := [9]) (by kernel_rfl) (by simp) ?_
                refine AllReadyH.cons (o := _) rfl (fun K hK => ?_) ?_
                · go_simp
                  refine hK.out _ _ ?_ (fun hHeld2 => ?_)
                  · exact kg
                  clear hK K hHeld
                  have hHeld := hHeld2
                  clear hHeld2
                  try simp only [putA]
                  refine wpAnyH_done (by kernel_rfl) ?_ _
                  (try go_wp2)
                  refine bodyPost_ret (by simp [results, Try.results20, go_sem, ext_cell, kp, *]; try rfl) rfl ?_
                  exact ⟨rfl, Below.trans HBa (Below.mono hHeld (by have := HBa.size; omega))⟩
                exact AllReadyH.nil
              exact AllReadyH.nil
            exact AllReadyH.nil
          exact AllReadyH.nil
        exact AllReadyH.nil
      refine AllReadyH.cons (o := _) rfl (fun K hK => ?_) ?_
      · go_simp
        with_reducible refine (W1 _).mono ?_
        rintro e w' ⟨rfl, hb⟩
        obtain ⟨l9, d9, rfl⟩ := toExt hb
        clear hb
        (try go_wp2_with fail)
        refine hK.out _ _ ?_ (fun hHeld2 => ?_)
        · exact kg
        clear hK K hHeld
        have hHeld := hHeld2
        clear hHeld2
        try simp only [putA]
        refine wpAnyH_ready (rs := [4]) (by kernel_rfl) (by simp) ?_
        refine AllReadyH.cons (o := _) rfl (fun K hK => ?_) ?_
        · go_simp
          refine hK.out _ _ ?_ (fun hHeld2 => ?_)
          · exact kg
          clear hK K hHeld
          have hHeld := hHeld2
          clear hHeld2
          try simp only [putA]
          refine wpAnyH_ready (rs := [6]) (by kernel_rfl) (by simp) ?_
          refine AllReadyH.cons (o := _) rfl (fun K hK => ?_) ?_
          · go_simp
            refine hK.out _ _ ?_ (fun hHeld2 => ?_)
            · exact kg
            clear hK K hHeld
            have hHeld := hHeld2
            clear hHeld2
            try simp only [putA]
            refine wpAnyH_ready (rs := [7]) (by kernel_rfl) (by simp) ?_
            refine AllReadyH.cons (o := _) rfl (fun K hK => ?_) ?_
            · go_simp
              refine hK.out _ _ ?_ (fun hHeld2 => ?_)
              · exact kg
              clear hK K hHeld
              have hHeld := hHeld2
              clear hHeld2
              try simp only [putA]
              refine wpAnyH_ready (rs := [8]) (by kernel_rfl) (by simp) ?_
              refine AllReadyH.cons (o := _) rfl (fun K hK => ?_) ?_
              · go_simp
                refine hK.out _ _ ?_ (fun hHeld2 => ?_)
                · exact kg
                clear hK K hHeld
                have hHeld := hHeld2
                clear hHeld2
                try simp only [putA]
                refine wpAnyH_ready (rs := [9]) (by kernel_rfl) (by simp) ?_
                refine AllReadyH.cons (o := _) rfl (fun K hK => ?_) ?_
                · go_simp
                  refine hK.out _ _ ?_ (fun hHeld2 => ?_)
                  · exact kg
                  clear hK K hHeld
                  have hHeld := hHeld2
                  clear hHeld2
                  try simp only [putA]
                  refine wpAnyH_done (by kernel_rfl) ?_ _
                  (try go_wp2)
                  refine bodyPost_ret (by simp [results, Try.results20, go_sem, ext_cell, kp, *]; try rfl) rfl ?_
                  exact ⟨rfl, Below.trans HBa (Below.mono hHeld (by have := HBa.size; omega))⟩
                exact AllReadyH.nil
              exact AllReadyH.nil
            exact AllReadyH.nil
          exact AllReadyH.nil
        exact AllReadyH.nil
      exact AllReadyH.nil
    exact AllReadyH.nil
  exact AllReadyH.nil

set_option maxRecDepth 100000 in
set_option maxHeartbeats 6400000 in
theorem vec_is_t1 (M : Nat → Int) (hb : okCM M) (ho : okM M) (R : Nat → Int) (d1 d2 : Int) (DT : ∀ w : World, Calls Try.prog 53 #[.agg #[.int .i64 (M 0), .int .i64 (M 1), .int .i64 (M 2), .int .i64 (M 3), .int .i64 (M 4), .int .i64 (M 5), .int .i64 (M 6), .int .i64 (M 7), .int .i64 (M 8), .int .i64 (M 9), .int .i64 (M 10), .int .i64 (M 11), .int .i64 (M 12), .int .i64 (M 13), .int .i64 (M 14), .int .i64 (M 15), .int .i64 (M 16), .int .i64 (M 17)], .agg #[.int .i64 (M 0), .int .i64 (M 1), .int .i64 (M 2), .int .i64 (M 3), .int .i64 (M 4), .int .i64 (M 5), .int .i64 (M 6), .int .i64 (M 7), .int .i64 (M 8), .int .i64 (M 9), .int .i64 (M 10), .int .i64 (M 11), .int .i64 (M 12), .int .i64 (M 13), .int .i64 (M 14), .int .i64 (M 15), .int .i64 (M 16), .int .i64 (M 17)]] w fun x w' => x = .returned (.tuple #[.agg #[.int .i64 (R 0), .int .i64 (R 1), .int .i64 (R 2), .int .i64 (R 3), .int .i64 (R 4), .int .i64 (R 5), .int .i64 (R 6), .int .i64 (R 7), .int .i64 (R 8), .int .i64 (R 9), .int .i64 (R 10), .int .i64 (R 11), .int .i64 (R 12), .int .i64 (R 13), .int .i64 (R 14), .int .i64 (R 15), .int .i64 (R 16), .int .i64 (R 17)], .int .i64 0]) ∧ Below w.heap.size w w') (DE : ∀ w : World, Calls Try.prog 56 #[.agg #[.int .i64 (M 0), .int .i64 (M 1), .int .i64 (M 2), .int .i64 (M 3), .int .i64 (M 4), .int .i64 (M 5), .int .i64 (M 6), .int .i64 (M 7), .int .i64 (M 8), .int .i64 (M 9), .int .i64 (M 10), .int .i64 (M 11), .int .i64 (M 12), .int .i64 (M 13), .int .i64 (M 14), .int .i64 (M 15), .int .i64 (M 16), .int .i64 (M 17)]] w fun x w' => x = .returned (.tuple #[.agg #[.int .i64 d1, .int .i64 d2], .int .i64 0]) ∧ Below w.heap.size w w') (U : ∀ w : World, Calls Try.prog 60 #[] w fun x w' => x = .returned (.agg #[.int .i64 (unP 0), .int .i64 (unP 1), .int .i64 (unP 2), .int .i64 (unP 3), .int .i64 (unP 4), .int .i64 (unP 5), .int .i64 (unP 6), .int .i64 (unP 7), .int .i64 (unP 8), .int .i64 (unP 9), .int .i64 (unP 10), .int .i64 (unP 11), .int .i64 (unP 12), .int .i64 (unP 13), .int .i64 (unP 14), .int .i64 (unP 15), .int .i64 (unP 16), .int .i64 (unP 17)]) ∧ Below w.heap.size w w') (W1 : ∀ w : World, Calls Try.prog 67 #[.int .i64 1] w fun x w' => x = .returned (.agg #[.int .i64 1, .int .i64 1]) ∧ Below w.heap.size w w') (hm : matB R unP = true) (q1 : (d1 = 1) = False) (w : World) :
    Calls Try.prog 20 #[.agg #[.int .i64 (M 0), .int .i64 (M 1), .int .i64 (M 2), .int .i64 (M 3), .int .i64 (M 4), .int .i64 (M 5), .int .i64 (M 6), .int .i64 (M 7), .int .i64 (M 8), .int .i64 (M 9), .int .i64 (M 10), .int .i64 (M 11), .int .i64 (M 12), .int .i64 (M 13), .int .i64 (M 14), .int .i64 (M 15), .int .i64 (M 16), .int .i64 (M 17)]] w fun x w' => x = .returned (.tuple #[.bool false, .int .i64 0]) ∧ Below w.heap.size w w' := by
  have CK := fun W g h1 h2 => check_mat M hb W g h1 h2
  rw [chM_ok ho] at CK
  clear hb ho
  have xR := xRul
  have dz1 := dzA
  have dz2 := dzB
  go_enter Try.func20, Try.ntmps20
  go_upto_region 1 with fail
  refine opq (fun wx => Cs wx w.heap.size 18 M ∧ w.heap.size < wx.heap.size ∧ Below w.heap.size w wx) ?_ ?_
  · exact ⟨cs_new rfl (arrM M), by simp, kb⟩
  rintro wz ⟨cM, zs, HBa⟩
  have hM : ∀ o, o < 18 → wz.cell? ⟨w.heap.size, o, none⟩ = some (.int .i64 (M o)) := cM
  go_wp2_with fail
  with_reducible refine (CK _ _ (by omega) hM).mono ?_
  rintro e w1 ⟨rfl, hb⟩
  clear hM CK
  replace cM := cs_below cM hb (by omega)
  replace HBa := HBa.trans (hb.mono (by omega))
  replace zs := Nat.lt_of_lt_of_le zs hb.size
  clear hb
  go_upto_region 4 with fail
  go_step
  refine load18 (.tmp 1) _ M cM rfl rfl rfl ?_
  simp only [putA]
  refine load18 (.tmp 1) _ M cM rfl rfl rfl ?_
  simp only [putA]
  refine wpList_plain rfl (fun K hK => ?_)
  go_big_op
  with_reducible refine (DT _).mono ?_
  rintro e w2 ⟨rfl, hb⟩
  simp only []
  refine hK _ _ ?_
  clear hK K
  replace cM := cs_below cM hb (by omega)
  replace HBa := HBa.trans (hb.mono (by omega))
  replace zs := Nat.lt_of_lt_of_le zs hb.size
  clear hb DT
  refine wpList_plain rfl (fun K hK => ?_)
  go_big_op
  refine hK _ _ ?_
  clear hK K
  refine wpList_plain rfl (fun K hK => ?_)
  go_big_op
  refine hK _ _ ?_
  clear hK K
  refine wpList_plain rfl (fun K hK => ?_)
  go_big_op
  refine hK _ _ ?_
  clear hK K
  refine wpList_plain rfl (fun K hK => ?_)
  go_big_op
  refine hK _ _ ?_
  clear hK K
  refine store18 (.tmp 5) (.tmp 17) w2.heap.size R (fun _ => 0) (cs_new rfl arr0) (fs_new rfl) rfl rfl rfl rfl ?_
  intro wa cR fR sX bX
  have hb := bX w2.heap.size w2 (Nat.le_refl _) (bal (b0 _) _)
  have zq : w2.heap.size < wa.heap.size := by rw [sX]; simp
  replace cM := cs_below cM hb (by omega)
  replace HBa := HBa.trans (hb.mono (by omega))
  replace zs := Nat.lt_of_lt_of_le zs hb.size
  clear hb bX sX fR
  generalize w2.heap.size = q at *
  go_upto_region 7 with fail
  go_step
  refine load18 (.tmp 1) _ M cM rfl rfl rfl ?_
  go_wp2_with fail
  with_reducible refine (DE _).mono ?_
  rintro e w3 ⟨rfl, hb⟩
  replace cM := cs_below cM hb (by omega)
  replace HBa := HBa.trans (hb.mono (by omega))
  replace zs := Nat.lt_of_lt_of_le zs hb.size
  replace cR := cs_below cR hb (by omega)
  replace zq := Nat.lt_of_lt_of_le zq hb.size
  clear hb DE
  go_upto_region 8 with fail
  refine opq (fun wx => Cs wx q 18 R ∧ wx.cell? ⟨w3.heap.size, 0, none⟩ = some (.int .i64 d1) ∧ wx.cell? ⟨w3.heap.size, 1, none⟩ = some (.int .i64 d2) ∧ w3.heap.size < wx.heap.size ∧ q < wx.heap.size ∧ Below w.heap.size w wx) ?_ ?_
  · exact ⟨kc, kk, kk, by simp [World.setCell], by (simp [World.setCell] <;> omega), kg⟩
  clear cM cR HBa zq zs
  generalize w3.heap.size = p at *
  rintro wb ⟨cR, k0, k1, zp, zq, HBa⟩
  have ME := fun w => mat_eq R unP w
  rw [hm] at ME
  clear hm
  go_wp2_with fail
  refine wp_region_held_drew (S := (fun w' => Below wb.heap.size wb w')) (by kernel_rfl) ?_ (fun hHeld => ?_)
  · exact Below.drew (Below.refl _ _)
  refine take18 0 (.tmp 5) q R rfl rfl (by kernel_rfl) (by kernel_rfl) (by kernel_rfl) (fun _ _ _ h => h) (by rfl) rfl (fun w k => cs_below cR k (by omega)) (by assumption) ?_
  try simp only [putA]
  refine wpAnyH_ready (rs := [1]) (by kernel_rfl) (by simp) ?_
  refine AllReadyH.cons (o := _) rfl (fun K hK => ?_) ?_
  · go_simp
    with_reducible refine (U _).mono ?_
    rintro e w' ⟨rfl, hb⟩
    obtain ⟨l9, d9, rfl⟩ := toExt hb
    clear hb
    (try go_wp2_with fail)
    refine hK.out _ _ ?_ (fun hHeld2 => ?_)
    · exact kg
    clear hK K hHeld
    have hHeld := hHeld2
    clear hHeld2
    try simp only [putA]
    refine wpAnyH_ready (rs := [2]) (by kernel_rfl) (by simp) ?_
    refine AllReadyH.cons (o := _) rfl (fun K hK => ?_) ?_
    · go_simp
      refine hK.out _ _ ?_ (fun hHeld2 => ?_)
      · exact kg
      clear hK K hHeld
      have hHeld := hHeld2
      clear hHeld2
      try simp only [putA]
      refine wpAnyH_take (i := 3) (oi := _) (v := ?_) rfl (by kernel_rfl) (by kernel_rfl) (by kernel_rfl) (fun _ _ _ h => h) (Or.inl ⟨by rfl, ?_⟩) (by assumption) ?_
      rotate_left
      · (intro w hSw; (try dsimp only at hSw); go_simp; (try with_reducible rfl))
      try simp only [putA]
      refine wpAnyH_ready (rs := [4, 5]) (by kernel_rfl) (by simp) ?_
      refine AllReadyH.cons (o := _) rfl (fun K hK => ?_) ?_
      · go_simp
        refine hK.out _ _ ?_ (fun hHeld2 => ?_)
        · exact kg
        clear hK K hHeld
        have hHeld := hHeld2
        clear hHeld2
        try simp only [putA]
        refine wpAnyH_ready (rs := [5]) (by kernel_rfl) (by simp) ?_
        refine AllReadyH.cons (o := _) rfl (fun K hK => ?_) ?_
        · go_simp
          with_reducible refine (W1 _).mono ?_
          rintro e w' ⟨rfl, hb⟩
          obtain ⟨l9, d9, rfl⟩ := toExt hb
          clear hb
          (try go_wp2_with fail)
          refine hK.out _ _ ?_ (fun hHeld2 => ?_)
          · exact kg
          clear hK K hHeld
          have hHeld := hHeld2
          clear hHeld2
          try simp only [putA]
          refine wpAnyH_ready (rs := [6]) (by kernel_rfl) (by simp) ?_
          refine AllReadyH.cons (o := _) rfl (fun K hK => ?_) ?_
          · go_simp
            refine hK.out _ _ ?_ (fun hHeld2 => ?_)
            · exact kg
            clear hK K hHeld
            have hHeld := hHeld2
            clear hHeld2
            try simp only [putA]
            refine wpAnyH_ready (rs := [7]) (by kernel_rfl) (by simp) ?_
            refine AllReadyH.cons (o := _) rfl (fun K hK => ?_) ?_
            · go_simp
              refine hK.out _ _ ?_ (fun hHeld2 => ?_)
              · exact kg
              clear hK K hHeld
              have hHeld := hHeld2
              clear hHeld2
              try simp only [putA]
              refine wpAnyH_ready (rs := [8]) (by kernel_rfl) (by simp) ?_
              refine AllReadyH.cons (o := _) rfl (fun K hK => ?_) ?_
              · go_simp
                refine hK.out _ _ ?_ (fun hHeld2 => ?_)
                · exact kg
                clear hK K hHeld
                have hHeld := hHeld2
                clear hHeld2
                try simp only [putA]
                refine wpAnyH_ready (rs := [9]) (by kernel_rfl) (by simp) ?_
                refine AllReadyH.cons (o := _) rfl (fun K hK => ?_) ?_
                · go_simp
                  refine hK.out _ _ ?_ (fun hHeld2 => ?_)
                  · exact kg
                  clear hK K hHeld
                  have hHeld := hHeld2
                  clear hHeld2
                  try simp only [putA]
                  refine wpAnyH_done (by kernel_rfl) ?_ _
                  (try go_wp2)
                  refine bodyPost_ret (by simp [results, Try.results20, go_sem, ext_cell, kp, *]; try rfl) rfl ?_
                  exact ⟨rfl, Below.trans HBa (Below.mono hHeld (by have := HBa.size; omega))⟩
                exact AllReadyH.nil
              exact AllReadyH.nil
            exact AllReadyH.nil
          exact AllReadyH.nil
        exact AllReadyH.nil
      refine AllReadyH.cons (o := _) rfl (fun K hK => ?_) ?_
      · go_simp
        with_reducible refine (W1 _).mono ?_
        rintro e w' ⟨rfl, hb⟩
        obtain ⟨l9, d9, rfl⟩ := toExt hb
        clear hb
        (try go_wp2_with fail)
        refine hK.out _ _ ?_ (fun hHeld2 => ?_)
        · exact kg
        clear hK K hHeld
        have hHeld := hHeld2
        clear hHeld2
        try simp only [putA]
        refine wpAnyH_ready (rs := [4]) (by kernel_rfl) (by simp) ?_
        refine AllReadyH.cons (o := _) rfl (fun K hK => ?_) ?_
        · go_simp
          refine hK.out _ _ ?_ (fun hHeld2 => ?_)
          · exact kg
          clear hK K hHeld
          have hHeld := hHeld2
          clear hHeld2
          try simp only [putA]
          refine wpAnyH_ready (rs := [6]) (by kernel_rfl) (by simp) ?_
          refine AllReadyH.cons (o := _) rfl (fun K hK => ?_) ?_
          · go_simp
            refine hK.out _ _ ?_ (fun hHeld2 => ?_)
            · exact kg
            clear hK K hHeld
            have hHeld := hHeld2
            clear hHeld2
            try simp only [putA]
            refine wpAnyH_ready (rs := [7]) (by kernel_rfl) (by simp) ?_
            refine AllReadyH.cons (o := _) rfl (fun K hK => ?_) ?_
            · go_simp
              refine hK.out _ _ ?_ (fun hHeld2 => ?_)
              · exact kg
              clear hK K hHeld
              have hHeld := hHeld2
              clear hHeld2
              try simp only [putA]
              refine wpAnyH_ready (rs := [8]) (by kernel_rfl) (by simp) ?_
              refine AllReadyH.cons (o := _) rfl (fun K hK => ?_) ?_
              · go_simp
                refine hK.out _ _ ?_ (fun hHeld2 => ?_)
                · exact kg
                clear hK K hHeld
                have hHeld := hHeld2
                clear hHeld2
                try simp only [putA]
                refine wpAnyH_ready (rs := [9]) (by kernel_rfl) (by simp) ?_
                refine AllReadyH.cons (o := _) rfl (fun K hK => ?_) ?_
                · go_simp
                  refine hK.out _ _ ?_ (fun hHeld2 => ?_)
                  · exact kg
                  clear hK K hHeld
                  have hHeld := hHeld2
                  clear hHeld2
                  try simp only [putA]
                  refine wpAnyH_done (by kernel_rfl) ?_ _
                  (try go_wp2)
                  refine bodyPost_ret (by simp [results, Try.results20, go_sem, ext_cell, kp, *]; try rfl) rfl ?_
                  exact ⟨rfl, Below.trans HBa (Below.mono hHeld (by have := HBa.size; omega))⟩
                exact AllReadyH.nil
              exact AllReadyH.nil
            exact AllReadyH.nil
          exact AllReadyH.nil
        exact AllReadyH.nil
      exact AllReadyH.nil
    exact AllReadyH.nil
  exact AllReadyH.nil

set_option maxRecDepth 100000 in
set_option maxHeartbeats 6400000 in
theorem vec_is_t2 (M : Nat → Int) (hb : okCM M) (ho : okM M) (R : Nat → Int) (d1 d2 : Int) (DT : ∀ w : World, Calls Try.prog 53 #[.agg #[.int .i64 (M 0), .int .i64 (M 1), .int .i64 (M 2), .int .i64 (M 3), .int .i64 (M 4), .int .i64 (M 5), .int .i64 (M 6), .int .i64 (M 7), .int .i64 (M 8), .int .i64 (M 9), .int .i64 (M 10), .int .i64 (M 11), .int .i64 (M 12), .int .i64 (M 13), .int .i64 (M 14), .int .i64 (M 15), .int .i64 (M 16), .int .i64 (M 17)], .agg #[.int .i64 (M 0), .int .i64 (M 1), .int .i64 (M 2), .int .i64 (M 3), .int .i64 (M 4), .int .i64 (M 5), .int .i64 (M 6), .int .i64 (M 7), .int .i64 (M 8), .int .i64 (M 9), .int .i64 (M 10), .int .i64 (M 11), .int .i64 (M 12), .int .i64 (M 13), .int .i64 (M 14), .int .i64 (M 15), .int .i64 (M 16), .int .i64 (M 17)]] w fun x w' => x = .returned (.tuple #[.agg #[.int .i64 (R 0), .int .i64 (R 1), .int .i64 (R 2), .int .i64 (R 3), .int .i64 (R 4), .int .i64 (R 5), .int .i64 (R 6), .int .i64 (R 7), .int .i64 (R 8), .int .i64 (R 9), .int .i64 (R 10), .int .i64 (R 11), .int .i64 (R 12), .int .i64 (R 13), .int .i64 (R 14), .int .i64 (R 15), .int .i64 (R 16), .int .i64 (R 17)], .int .i64 0]) ∧ Below w.heap.size w w') (DE : ∀ w : World, Calls Try.prog 56 #[.agg #[.int .i64 (M 0), .int .i64 (M 1), .int .i64 (M 2), .int .i64 (M 3), .int .i64 (M 4), .int .i64 (M 5), .int .i64 (M 6), .int .i64 (M 7), .int .i64 (M 8), .int .i64 (M 9), .int .i64 (M 10), .int .i64 (M 11), .int .i64 (M 12), .int .i64 (M 13), .int .i64 (M 14), .int .i64 (M 15), .int .i64 (M 16), .int .i64 (M 17)]] w fun x w' => x = .returned (.tuple #[.agg #[.int .i64 d1, .int .i64 d2], .int .i64 0]) ∧ Below w.heap.size w w') (U : ∀ w : World, Calls Try.prog 60 #[] w fun x w' => x = .returned (.agg #[.int .i64 (unP 0), .int .i64 (unP 1), .int .i64 (unP 2), .int .i64 (unP 3), .int .i64 (unP 4), .int .i64 (unP 5), .int .i64 (unP 6), .int .i64 (unP 7), .int .i64 (unP 8), .int .i64 (unP 9), .int .i64 (unP 10), .int .i64 (unP 11), .int .i64 (unP 12), .int .i64 (unP 13), .int .i64 (unP 14), .int .i64 (unP 15), .int .i64 (unP 16), .int .i64 (unP 17)]) ∧ Below w.heap.size w w') (W1 : ∀ w : World, Calls Try.prog 67 #[.int .i64 1] w fun x w' => x = .returned (.agg #[.int .i64 1, .int .i64 1]) ∧ Below w.heap.size w w') (hm : matB R unP = true) (q1 : (d1 = 1) = True) (q2 : (d2 = 1) = False) (w : World) :
    Calls Try.prog 20 #[.agg #[.int .i64 (M 0), .int .i64 (M 1), .int .i64 (M 2), .int .i64 (M 3), .int .i64 (M 4), .int .i64 (M 5), .int .i64 (M 6), .int .i64 (M 7), .int .i64 (M 8), .int .i64 (M 9), .int .i64 (M 10), .int .i64 (M 11), .int .i64 (M 12), .int .i64 (M 13), .int .i64 (M 14), .int .i64 (M 15), .int .i64 (M 16), .int .i64 (M 17)]] w fun x w' => x = .returned (.tuple #[.bool false, .int .i64 0]) ∧ Below w.heap.size w w' := by
  have CK := fun W g h1 h2 => check_mat M hb W g h1 h2
  rw [chM_ok ho] at CK
  clear hb ho
  have xR := xRul
  have dz1 := dzA
  have dz2 := dzB
  go_enter Try.func20, Try.ntmps20
  go_upto_region 1 with fail
  refine opq (fun wx => Cs wx w.heap.size 18 M ∧ w.heap.size < wx.heap.size ∧ Below w.heap.size w wx) ?_ ?_
  · exact ⟨cs_new rfl (arrM M), by simp, kb⟩
  rintro wz ⟨cM, zs, HBa⟩
  have hM : ∀ o, o < 18 → wz.cell? ⟨w.heap.size, o, none⟩ = some (.int .i64 (M o)) := cM
  go_wp2_with fail
  with_reducible refine (CK _ _ (by omega) hM).mono ?_
  rintro e w1 ⟨rfl, hb⟩
  clear hM CK
  replace cM := cs_below cM hb (by omega)
  replace HBa := HBa.trans (hb.mono (by omega))
  replace zs := Nat.lt_of_lt_of_le zs hb.size
  clear hb
  go_upto_region 4 with fail
  go_step
  refine load18 (.tmp 1) _ M cM rfl rfl rfl ?_
  simp only [putA]
  refine load18 (.tmp 1) _ M cM rfl rfl rfl ?_
  simp only [putA]
  refine wpList_plain rfl (fun K hK => ?_)
  go_big_op
  with_reducible refine (DT _).mono ?_
  rintro e w2 ⟨rfl, hb⟩
  simp only []
  refine hK _ _ ?_
  clear hK K
  replace cM := cs_below cM hb (by omega)
  replace HBa := HBa.trans (hb.mono (by omega))
  replace zs := Nat.lt_of_lt_of_le zs hb.size
  clear hb DT
  refine wpList_plain rfl (fun K hK => ?_)
  go_big_op
  refine hK _ _ ?_
  clear hK K
  refine wpList_plain rfl (fun K hK => ?_)
  go_big_op
  refine hK _ _ ?_
  clear hK K
  refine wpList_plain rfl (fun K hK => ?_)
  go_big_op
  refine hK _ _ ?_
  clear hK K
  refine wpList_plain rfl (fun K hK => ?_)
  go_big_op
  refine hK _ _ ?_
  clear hK K
  refine store18 (.tmp 5) (.tmp 17) w2.heap.size R (fun _ => 0) (cs_new rfl arr0) (fs_new rfl) rfl rfl rfl rfl ?_
  intro wa cR fR sX bX
  have hb := bX w2.heap.size w2 (Nat.le_refl _) (bal (b0 _) _)
  have zq : w2.heap.size < wa.heap.size := by rw [sX]; simp
  replace cM := cs_below cM hb (by omega)
  replace HBa := HBa.trans (hb.mono (by omega))
  replace zs := Nat.lt_of_lt_of_le zs hb.size
  clear hb bX sX fR
  generalize w2.heap.size = q at *
  go_upto_region 7 with fail
  go_step
  refine load18 (.tmp 1) _ M cM rfl rfl rfl ?_
  go_wp2_with fail
  with_reducible refine (DE _).mono ?_
  rintro e w3 ⟨rfl, hb⟩
  replace cM := cs_below cM hb (by omega)
  replace HBa := HBa.trans (hb.mono (by omega))
  replace zs := Nat.lt_of_lt_of_le zs hb.size
  replace cR := cs_below cR hb (by omega)
  replace zq := Nat.lt_of_lt_of_le zq hb.size
  clear hb DE
  go_upto_region 8 with fail
  refine opq (fun wx => Cs wx q 18 R ∧ wx.cell? ⟨w3.heap.size, 0, none⟩ = some (.int .i64 d1) ∧ wx.cell? ⟨w3.heap.size, 1, none⟩ = some (.int .i64 d2) ∧ w3.heap.size < wx.heap.size ∧ q < wx.heap.size ∧ Below w.heap.size w wx) ?_ ?_
  · exact ⟨kc, kk, kk, by simp [World.setCell], by (simp [World.setCell] <;> omega), kg⟩
  clear cM cR HBa zq zs
  generalize w3.heap.size = p at *
  rintro wb ⟨cR, k0, k1, zp, zq, HBa⟩
  have ME := fun w => mat_eq R unP w
  rw [hm] at ME
  clear hm
  go_wp2_with fail
  refine wp_region_held_drew (S := (fun w' => Below wb.heap.size wb w')) (by kernel_rfl) ?_ (fun hHeld => ?_)
  · exact Below.drew (Below.refl _ _)
  refine take18 0 (.tmp 5) q R rfl rfl (by kernel_rfl) (by kernel_rfl) (by kernel_rfl) (fun _ _ _ h => h) (by rfl) rfl (fun w k => cs_below cR k (by omega)) (by assumption) ?_
  try simp only [putA]
  refine wpAnyH_ready (rs := [1]) (by kernel_rfl) (by simp) ?_
  refine AllReadyH.cons (o := _) rfl (fun K hK => ?_) ?_
  · go_simp
    with_reducible refine (U _).mono ?_
    rintro e w' ⟨rfl, hb⟩
    obtain ⟨l9, d9, rfl⟩ := toExt hb
    clear hb
    (try go_wp2_with fail)
    refine hK.out _ _ ?_ (fun hHeld2 => ?_)
    · exact kg
    clear hK K hHeld
    have hHeld := hHeld2
    clear hHeld2
    try simp only [putA]
    refine wpAnyH_ready (rs := [2]) (by kernel_rfl) (by simp) ?_
    refine AllReadyH.cons (o := _) rfl (fun K hK => ?_) ?_
    · go_simp
      refine hK.out _ _ ?_ (fun hHeld2 => ?_)
      · exact kg
      clear hK K hHeld
      have hHeld := hHeld2
      clear hHeld2
      try simp only [putA]
      refine wpAnyH_take (i := 3) (oi := _) (v := ?_) rfl (by kernel_rfl) (by kernel_rfl) (by kernel_rfl) (fun _ _ _ h => h) (Or.inl ⟨by rfl, ?_⟩) (by assumption) ?_
      rotate_left
      · (intro w hSw; (try dsimp only at hSw); go_simp; (try with_reducible rfl))
      try simp only [putA]
      refine wpAnyH_ready (rs := [4, 5]) (by kernel_rfl) (by simp) ?_
      refine AllReadyH.cons (o := _) rfl (fun K hK => ?_) ?_
      · go_simp
        refine hK.out _ _ ?_ (fun hHeld2 => ?_)
        · exact kg
        clear hK K hHeld
        have hHeld := hHeld2
        clear hHeld2
        try simp only [putA]
        refine wpAnyH_ready (rs := [5]) (by kernel_rfl) (by simp) ?_
        refine AllReadyH.cons (o := _) rfl (fun K hK => ?_) ?_
        · go_simp
          with_reducible refine (W1 _).mono ?_
          rintro e w' ⟨rfl, hb⟩
          obtain ⟨l9, d9, rfl⟩ := toExt hb
          clear hb
          (try go_wp2_with fail)
          refine hK.out _ _ ?_ (fun hHeld2 => ?_)
          · exact kg
          clear hK K hHeld
          have hHeld := hHeld2
          clear hHeld2
          try simp only [putA]
          refine wpAnyH_ready (rs := [6]) (by kernel_rfl) (by simp) ?_
          refine AllReadyH.cons (o := _) rfl (fun K hK => ?_) ?_
          · go_simp
            refine hK.out _ _ ?_ (fun hHeld2 => ?_)
            · exact kg
            clear hK K hHeld
            have hHeld := hHeld2
            clear hHeld2
            try simp only [putA]
            refine wpAnyH_ready (rs := [7]) (by kernel_rfl) (by simp) ?_
            refine AllReadyH.cons (o := _) rfl (fun K hK => ?_) ?_
            · go_simp
              refine hK.out _ _ ?_ (fun hHeld2 => ?_)
              · exact kg
              clear hK K hHeld
              have hHeld := hHeld2
              clear hHeld2
              try simp only [putA]
              refine wpAnyH_ready (rs := [8]) (by kernel_rfl) (by simp) ?_
              refine AllReadyH.cons (o := _) rfl (fun K hK => ?_) ?_
              · go_simp
                refine hK.out _ _ ?_ (fun hHeld2 => ?_)
                · exact kg
                clear hK K hHeld
                have hHeld := hHeld2
                clear hHeld2
                try simp only [putA]
                refine wpAnyH_ready (rs := [9]) (by kernel_rfl) (by simp) ?_
                refine AllReadyH.cons (o := _) rfl (fun K hK => ?_) ?_
                · go_simp
                  refine hK.out _ _ ?_ (fun hHeld2 => ?_)
                  · exact kg
                  clear hK K hHeld
                  have hHeld := hHeld2
                  clear hHeld2
                  try simp only [putA]
                  refine wpAnyH_done (by kernel_rfl) ?_ _
                  (try go_wp2)
                  refine bodyPost_ret (by simp [results, Try.results20, go_sem, ext_cell, kp, *]; try rfl) rfl ?_
                  exact ⟨rfl, Below.trans HBa (Below.mono hHeld (by have := HBa.size; omega))⟩
                exact AllReadyH.nil
              exact AllReadyH.nil
            exact AllReadyH.nil
          exact AllReadyH.nil
        exact AllReadyH.nil
      refine AllReadyH.cons (o := _) rfl (fun K hK => ?_) ?_
      · go_simp
        with_reducible refine (W1 _).mono ?_
        rintro e w' ⟨rfl, hb⟩
        obtain ⟨l9, d9, rfl⟩ := toExt hb
        clear hb
        (try go_wp2_with fail)
        refine hK.out _ _ ?_ (fun hHeld2 => ?_)
        · exact kg
        clear hK K hHeld
        have hHeld := hHeld2
        clear hHeld2
        try simp only [putA]
        refine wpAnyH_ready (rs := [4]) (by kernel_rfl) (by simp) ?_
        refine AllReadyH.cons (o := _) rfl (fun K hK => ?_) ?_
        · go_simp
          refine hK.out _ _ ?_ (fun hHeld2 => ?_)
          · exact kg
          clear hK K hHeld
          have hHeld := hHeld2
          clear hHeld2
          try simp only [putA]
          refine wpAnyH_ready (rs := [6]) (by kernel_rfl) (by simp) ?_
          refine AllReadyH.cons (o := _) rfl (fun K hK => ?_) ?_
          · go_simp
            refine hK.out _ _ ?_ (fun hHeld2 => ?_)
            · exact kg
            clear hK K hHeld
            have hHeld := hHeld2
            clear hHeld2
            try simp only [putA]
            refine wpAnyH_ready (rs := [7]) (by kernel_rfl) (by simp) ?_
            refine AllReadyH.cons (o := _) rfl (fun K hK => ?_) ?_
            · go_simp
              refine hK.out _ _ ?_ (fun hHeld2 => ?_)
              · exact kg
              clear hK K hHeld
              have hHeld := hHeld2
              clear hHeld2
              try simp only [putA]
              refine wpAnyH_ready (rs := [8]) (by kernel_rfl) (by simp) ?_
              refine AllReadyH.cons (o := _) rfl (fun K hK => ?_) ?_
              · go_simp
                refine hK.out _ _ ?_ (fun hHeld2 => ?_)
                · exact kg
                clear hK K hHeld
                have hHeld := hHeld2
                clear hHeld2
                try simp only [putA]
                refine wpAnyH_ready (rs := [9]) (by kernel_rfl) (by simp) ?_
                refine AllReadyH.cons (o := _) rfl (fun K hK => ?_) ?_
                · go_simp
                  refine hK.out _ _ ?_ (fun hHeld2 => ?_)
                  · exact kg
                  clear hK K hHeld
                  have hHeld := hHeld2
                  clear hHeld2
                  try simp only [putA]
                  refine wpAnyH_done (by kernel_rfl) ?_ _
                  (try go_wp2)
                  refine bodyPost_ret (by simp [results, Try.results20, go_sem, ext_cell, kp, *]; try rfl) rfl ?_
                  exact ⟨rfl, Below.trans HBa (Below.mono hHeld (by have := HBa.size; omega))⟩
                exact AllReadyH.nil
              exact AllReadyH.nil
            exact AllReadyH.nil
          exact AllReadyH.nil
        exact AllReadyH.nil
      exact AllReadyH.nil
    exact AllReadyH.nil
  exact AllReadyH.nil

set_option maxRecDepth 100000 in
set_option maxHeartbeats 6400000 in
theorem vec_is_f (M : Nat → Int) (hb : okCM M) (ho : okM M) (R : Nat → Int) (d1 d2 : Int) (DT : ∀ w : World, Calls Try.prog 53 #[.agg #[.int .i64 (M 0), .int .i64 (M 1), .int .i64 (M 2), .int .i64 (M 3), .int .i64 (M 4), .int .i64 (M 5), .int .i64 (M 6), .int .i64 (M 7), .int .i64 (M 8), .int .i64 (M 9), .int .i64 (M 10), .int .i64 (M 11), .int .i64 (M 12), .int .i64 (M 13), .int .i64 (M 14), .int .i64 (M 15), .int .i64 (M 16), .int .i64 (M 17)], .agg #[.int .i64 (M 0), .int .i64 (M 1), .int .i64 (M 2), .int .i64 (M 3), .int .i64 (M 4), .int .i64 (M 5), .int .i64 (M 6), .int .i64 (M 7), .int .i64 (M 8), .int .i64 (M 9), .int .i64 (M 10), .int .i64 (M 11), .int .i64 (M 12), .int .i64 (M 13), .int .i64 (M 14), .int .i64 (M 15), .int .i64 (M 16), .int .i64 (M 17)]] w fun x w' => x = .returned (.tuple #[.agg #[.int .i64 (R 0), .int .i64 (R 1), .int .i64 (R 2), .int .i64 (R 3), .int .i64 (R 4), .int .i64 (R 5), .int .i64 (R 6), .int .i64 (R 7), .int .i64 (R 8), .int .i64 (R 9), .int .i64 (R 10), .int .i64 (R 11), .int .i64 (R 12), .int .i64 (R 13), .int .i64 (R 14), .int .i64 (R 15), .int .i64 (R 16), .int .i64 (R 17)], .int .i64 0]) ∧ Below w.heap.size w w') (DE : ∀ w : World, Calls Try.prog 56 #[.agg #[.int .i64 (M 0), .int .i64 (M 1), .int .i64 (M 2), .int .i64 (M 3), .int .i64 (M 4), .int .i64 (M 5), .int .i64 (M 6), .int .i64 (M 7), .int .i64 (M 8), .int .i64 (M 9), .int .i64 (M 10), .int .i64 (M 11), .int .i64 (M 12), .int .i64 (M 13), .int .i64 (M 14), .int .i64 (M 15), .int .i64 (M 16), .int .i64 (M 17)]] w fun x w' => x = .returned (.tuple #[.agg #[.int .i64 d1, .int .i64 d2], .int .i64 0]) ∧ Below w.heap.size w w') (U : ∀ w : World, Calls Try.prog 60 #[] w fun x w' => x = .returned (.agg #[.int .i64 (unP 0), .int .i64 (unP 1), .int .i64 (unP 2), .int .i64 (unP 3), .int .i64 (unP 4), .int .i64 (unP 5), .int .i64 (unP 6), .int .i64 (unP 7), .int .i64 (unP 8), .int .i64 (unP 9), .int .i64 (unP 10), .int .i64 (unP 11), .int .i64 (unP 12), .int .i64 (unP 13), .int .i64 (unP 14), .int .i64 (unP 15), .int .i64 (unP 16), .int .i64 (unP 17)]) ∧ Below w.heap.size w w') (W1 : ∀ w : World, Calls Try.prog 67 #[.int .i64 1] w fun x w' => x = .returned (.agg #[.int .i64 1, .int .i64 1]) ∧ Below w.heap.size w w') (hm : matB R unP = false) (w : World) :
    Calls Try.prog 20 #[.agg #[.int .i64 (M 0), .int .i64 (M 1), .int .i64 (M 2), .int .i64 (M 3), .int .i64 (M 4), .int .i64 (M 5), .int .i64 (M 6), .int .i64 (M 7), .int .i64 (M 8), .int .i64 (M 9), .int .i64 (M 10), .int .i64 (M 11), .int .i64 (M 12), .int .i64 (M 13), .int .i64 (M 14), .int .i64 (M 15), .int .i64 (M 16), .int .i64 (M 17)]] w fun x w' => x = .returned (.tuple #[.bool false, .int .i64 0]) ∧ Below w.heap.size w w' := by
  have CK := fun W g h1 h2 => check_mat M hb W g h1 h2
  rw [chM_ok ho] at CK
  clear hb ho
  have xR := xRul
  have dz1 := dzA
  have dz2 := dzB
  go_enter Try.func20, Try.ntmps20
  go_upto_region 1 with fail
  refine opq (fun wx => Cs wx w.heap.size 18 M ∧ w.heap.size < wx.heap.size ∧ Below w.heap.size w wx) ?_ ?_
  · exact ⟨cs_new rfl (arrM M), by simp, kb⟩
  rintro wz ⟨cM, zs, HBa⟩
  have hM : ∀ o, o < 18 → wz.cell? ⟨w.heap.size, o, none⟩ = some (.int .i64 (M o)) := cM
  go_wp2_with fail
  with_reducible refine (CK _ _ (by omega) hM).mono ?_
  rintro e w1 ⟨rfl, hb⟩
  clear hM CK
  replace cM := cs_below cM hb (by omega)
  replace HBa := HBa.trans (hb.mono (by omega))
  replace zs := Nat.lt_of_lt_of_le zs hb.size
  clear hb
  go_upto_region 4 with fail
  go_step
  refine load18 (.tmp 1) _ M cM rfl rfl rfl ?_
  simp only [putA]
  refine load18 (.tmp 1) _ M cM rfl rfl rfl ?_
  simp only [putA]
  refine wpList_plain rfl (fun K hK => ?_)
  go_big_op
  with_reducible refine (DT _).mono ?_
  rintro e w2 ⟨rfl, hb⟩
  simp only []
  refine hK _ _ ?_
  clear hK K
  replace cM := cs_below cM hb (by omega)
  replace HBa := HBa.trans (hb.mono (by omega))
  replace zs := Nat.lt_of_lt_of_le zs hb.size
  clear hb DT
  refine wpList_plain rfl (fun K hK => ?_)
  go_big_op
  refine hK _ _ ?_
  clear hK K
  refine wpList_plain rfl (fun K hK => ?_)
  go_big_op
  refine hK _ _ ?_
  clear hK K
  refine wpList_plain rfl (fun K hK => ?_)
  go_big_op
  refine hK _ _ ?_
  clear hK K
  refine wpList_plain rfl (fun K hK => ?_)
  go_big_op
  refine hK _ _ ?_
  clear hK K
  refine store18 (.tmp 5) (.tmp 17) w2.heap.size R (fun _ => 0) (cs_new rfl arr0) (fs_new rfl) rfl rfl rfl rfl ?_
  intro wa cR fR sX bX
  have hb := bX w2.heap.size w2 (Nat.le_refl _) (bal (b0 _) _)
  have zq : w2.heap.size < wa.heap.size := by rw [sX]; simp
  replace cM := cs_below cM hb (by omega)
  replace HBa := HBa.trans (hb.mono (by omega))
  replace zs := Nat.lt_of_lt_of_le zs hb.size
  clear hb bX sX fR
  generalize w2.heap.size = q at *
  go_upto_region 7 with fail
  go_step
  refine load18 (.tmp 1) _ M cM rfl rfl rfl ?_
  go_wp2_with fail
  with_reducible refine (DE _).mono ?_
  rintro e w3 ⟨rfl, hb⟩
  replace cM := cs_below cM hb (by omega)
  replace HBa := HBa.trans (hb.mono (by omega))
  replace zs := Nat.lt_of_lt_of_le zs hb.size
  replace cR := cs_below cR hb (by omega)
  replace zq := Nat.lt_of_lt_of_le zq hb.size
  clear hb DE
  go_upto_region 8 with fail
  refine opq (fun wx => Cs wx q 18 R ∧ wx.cell? ⟨w3.heap.size, 0, none⟩ = some (.int .i64 d1) ∧ wx.cell? ⟨w3.heap.size, 1, none⟩ = some (.int .i64 d2) ∧ w3.heap.size < wx.heap.size ∧ q < wx.heap.size ∧ Below w.heap.size w wx) ?_ ?_
  · exact ⟨kc, kk, kk, by simp [World.setCell], by (simp [World.setCell] <;> omega), kg⟩
  clear cM cR HBa zq zs
  generalize w3.heap.size = p at *
  rintro wb ⟨cR, k0, k1, zp, zq, HBa⟩
  have ME := fun w => mat_eq R unP w
  rw [hm] at ME
  clear hm
  go_wp2_with fail
  refine wp_region_held_drew (S := (fun w' => Below wb.heap.size wb w')) (by kernel_rfl) ?_ (fun hHeld => ?_)
  · exact Below.drew (Below.refl _ _)
  refine take18 0 (.tmp 5) q R rfl rfl (by kernel_rfl) (by kernel_rfl) (by kernel_rfl) (fun _ _ _ h => h) (by rfl) rfl (fun w k => cs_below cR k (by omega)) (by assumption) ?_
  try simp only [putA]
  refine wpAnyH_ready (rs := [1]) (by kernel_rfl) (by simp) ?_
  refine AllReadyH.cons (o := _) rfl (fun K hK => ?_) ?_
  · go_simp
    with_reducible refine (U _).mono ?_
    rintro e w' ⟨rfl, hb⟩
    obtain ⟨l9, d9, rfl⟩ := toExt hb
    clear hb
    (try go_wp2_with fail)
    refine hK.out _ _ ?_ (fun hHeld2 => ?_)
    · exact kg
    clear hK K hHeld
    have hHeld := hHeld2
    clear hHeld2
    try simp only [putA]
    refine wpAnyH_ready (rs := [2]) (by kernel_rfl) (by simp) ?_
    refine AllReadyH.cons (o := _) rfl (fun K hK => ?_) ?_
    · go_simp
      refine hK.out _ _ ?_ (fun hHeld2 => ?_)
      · exact kg
      clear hK K hHeld
      have hHeld := hHeld2
      clear hHeld2
      try simp only [putA]
      refine wpAnyH_take (i := 3) (oi := _) (v := ?_) rfl (by kernel_rfl) (by kernel_rfl) (by kernel_rfl) (fun _ _ _ h => h) (Or.inl ⟨by rfl, ?_⟩) (by assumption) ?_
      rotate_left
      · (intro w hSw; (try dsimp only at hSw); go_simp; (try with_reducible rfl))
      try simp only [putA]
      refine wpAnyH_ready (rs := [4, 5]) (by kernel_rfl) (by simp) ?_
      refine AllReadyH.cons (o := _) rfl (fun K hK => ?_) ?_
      · go_simp
        refine hK.out _ _ ?_ (fun hHeld2 => ?_)
        · exact kg
        clear hK K hHeld
        have hHeld := hHeld2
        clear hHeld2
        try simp only [putA]
        refine wpAnyH_ready (rs := [5]) (by kernel_rfl) (by simp) ?_
        refine AllReadyH.cons (o := _) rfl (fun K hK => ?_) ?_
        · go_simp

          refine hK.out _ _ ?_ (fun hHeld2 => ?_)
          · exact kg
          clear hK K hHeld
          have hHeld := hHeld2
          clear hHeld2
          try simp only [putA]
          refine wpAnyH_ready (rs := [6]) (by kernel_rfl) (by simp) ?_
          refine AllReadyH.cons (o := _) rfl (fun K hK => ?_) ?_
          · go_simp
            refine hK.out _ _ ?_ (fun hHeld2 => ?_)
            · exact kg
            clear hK K hHeld
            have hHeld := hHeld2
            clear hHeld2
            try simp only [putA]
            refine wpAnyH_ready (rs := [7]) (by kernel_rfl) (by simp) ?_
            refine AllReadyH.cons (o := _) rfl (fun K hK => ?_) ?_
            · go_simp
              refine hK.out _ _ ?_ (fun hHeld2 => ?_)
              · exact kg
              clear hK K hHeld
              have hHeld := hHeld2
              clear hHeld2
              try simp only [putA]
              refine wpAnyH_ready (rs := [8]) (by kernel_rfl) (by simp) ?_
              refine AllReadyH.cons (o := _) rfl (fun K hK => ?_) ?_
              · go_simp
                refine hK.out _ _ ?_ (fun hHeld2 => ?_)
                · exact kg
                clear hK K hHeld
                have hHeld := hHeld2
                clear hHeld2
                try simp only [putA]
                refine wpAnyH_ready (rs := [9]) (by kernel_rfl) (by simp) ?_
                refine AllReadyH.cons (o := _) rfl (fun K hK => ?_) ?_
                · go_simp
                  refine hK.out _ _ ?_ (fun hHeld2 => ?_)
                  · exact kg
                  clear hK K hHeld
                  have hHeld := hHeld2
                  clear hHeld2
                  try simp only [putA]
                  refine wpAnyH_done (by kernel_rfl) ?_ _
                  (try go_wp2)
                  refine bodyPost_ret (by simp [results, Try.results20, go_sem, ext_cell, kp, *]; try rfl) rfl ?_
                  exact ⟨rfl, Below.trans HBa (Below.mono hHeld (by have := HBa.size; omega))⟩
                exact AllReadyH.nil
              exact AllReadyH.nil
            exact AllReadyH.nil
          exact AllReadyH.nil
        exact AllReadyH.nil
      refine AllReadyH.cons (o := _) rfl (fun K hK => ?_) ?_
      · go_simp

        refine hK.out _ _ ?_ (fun hHeld2 => ?_)
        · exact kg
        clear hK K hHeld
        have hHeld := hHeld2
        clear hHeld2
        try simp only [putA]
        refine wpAnyH_ready (rs := [4]) (by kernel_rfl) (by simp) ?_
        refine AllReadyH.cons (o := _) rfl (fun K hK => ?_) ?_
        · go_simp
          refine hK.out _ _ ?_ (fun hHeld2 => ?_)
          · exact kg
          clear hK K hHeld
          have hHeld := hHeld2
          clear hHeld2
          try simp only [putA]
          refine wpAnyH_ready (rs := [6]) (by kernel_rfl) (by simp) ?_
          refine AllReadyH.cons (o := _) rfl (fun K hK => ?_) ?_
          · go_simp
            refine hK.out _ _ ?_ (fun hHeld2 => ?_)
            · exact kg
            clear hK K hHeld
            have hHeld := hHeld2
            clear hHeld2
            try simp only [putA]
            refine wpAnyH_ready (rs := [7]) (by kernel_rfl) (by simp) ?_
            refine AllReadyH.cons (o := _) rfl (fun K hK => ?_) ?_
            · go_simp
              refine hK.out _ _ ?_ (fun hHeld2 => ?_)
              · exact kg
              clear hK K hHeld
              have hHeld := hHeld2
              clear hHeld2
              try simp only [putA]
              refine wpAnyH_ready (rs := [8]) (by kernel_rfl) (by simp) ?_
              refine AllReadyH.cons (o := _) rfl (fun K hK => ?_) ?_
              · go_simp
                refine hK.out _ _ ?_ (fun hHeld2 => ?_)
                · exact kg
                clear hK K hHeld
                have hHeld := hHeld2
                clear hHeld2
                try simp only [putA]
                refine wpAnyH_ready (rs := [9]) (by kernel_rfl) (by simp) ?_
                refine AllReadyH.cons (o := _) rfl (fun K hK => ?_) ?_
                · go_simp
                  refine hK.out _ _ ?_ (fun hHeld2 => ?_)
                  · exact kg
                  clear hK K hHeld
                  have hHeld := hHeld2
                  clear hHeld2
                  try simp only [putA]
                  refine wpAnyH_done (by kernel_rfl) ?_ _
                  (try go_wp2)
                  refine bodyPost_ret (by simp [results, Try.results20, go_sem, ext_cell, kp, *]; try rfl) rfl ?_
                  exact ⟨rfl, Below.trans HBa (Below.mono hHeld (by have := HBa.size; omega))⟩
                exact AllReadyH.nil
              exact AllReadyH.nil
            exact AllReadyH.nil
          exact AllReadyH.nil
        exact AllReadyH.nil
      exact AllReadyH.nil
    exact AllReadyH.nil
  exact AllReadyH.nil

end Go.Proofs.Ytdolfdmgdknboaa
