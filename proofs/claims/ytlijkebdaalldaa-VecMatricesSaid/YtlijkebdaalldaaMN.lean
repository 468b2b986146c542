/-
  Turn of the reference.  The cosine and the sine of a parameter, by the reference.  A whole number as a fraction, by the reference.
-/
import Derived.Test.YtlijkebdaalldaaKu
import Derived.Test.YtlijkebdaalldaaWtu
import Derived.Deep.RegionHeld3
import Derived.Test.YtlijkebdaalldaaMA
import Derived.Lib.Hide
namespace Go.Proofs.Ytlijkebdaalldaa
open Go.RowKit
set_option linter.unusedVariables false
set_option linter.unusedSimpArgs false

set_option maxRecDepth 100000 in
set_option maxHeartbeats 6400000 in
theorem ref2_turn_bad (n d : Int) (axis : Int) (CK : ∀ w : World, Calls Try.prog 59 #[.agg #[.int .i64 n, .int .i64 d]] w fun x w' => x = .returned (.int .i64 8) ∧ Below w.heap.size w w') (w : World) :
    Calls Try.prog 27 #[.int .i64 axis, .agg #[.int .i64 n, .int .i64 d]] w fun x w' => x = .returned (.tuple #[.agg #[.int .i64 ((fun _ => 0) 0), .int .i64 ((fun _ => 0) 1), .int .i64 ((fun _ => 0) 2), .int .i64 ((fun _ => 0) 3), .int .i64 ((fun _ => 0) 4), .int .i64 ((fun _ => 0) 5), .int .i64 ((fun _ => 0) 6), .int .i64 ((fun _ => 0) 7), .int .i64 ((fun _ => 0) 8), .int .i64 ((fun _ => 0) 9), .int .i64 ((fun _ => 0) 10), .int .i64 ((fun _ => 0) 11), .int .i64 ((fun _ => 0) 12), .int .i64 ((fun _ => 0) 13), .int .i64 ((fun _ => 0) 14), .int .i64 ((fun _ => 0) 15), .int .i64 ((fun _ => 0) 16), .int .i64 ((fun _ => 0) 17)], .int .i64 8]) ∧ Below w.heap.size w w' := by
  have xR := xRul
  have dz1 := dzA
  have dz2 := dzB
  go_enter Try.func27, Try.ntmps27
  go_upto_region 1 with fail
  refine opq (fun wx => wx.cell? ⟨w.heap.size, 0, none⟩ = some (.int .i64 n) ∧ wx.cell? ⟨w.heap.size, 1, none⟩ = some (.int .i64 d) ∧ Cs wx (w.heap.size + 1) 18 (fun _ => 0) ∧ Fs wx (w.heap.size + 1) 18 ∧ w.heap.size + 1 < wx.heap.size ∧ Below w.heap.size w wx) ?_ ?_
  · exact ⟨kk, kk, cs_new (by simp) arr0, fs_new (by simp), by simp, kb⟩
  rintro wz ⟨k0, k1, cR, fR, zs, HBa⟩
  go_wp2_with fail
  with_reducible refine (CK _).mono ?_
  rintro e w1 ⟨rfl, hb⟩
  replace k0 : w1.cell? ⟨w.heap.size, 0, none⟩ = some (.int .i64 n) := (hb.cell (show w.heap.size < wz.heap.size by omega)).trans k0
  replace k1 : w1.cell? ⟨w.heap.size, 1, none⟩ = some (.int .i64 d) := (hb.cell (show w.heap.size < wz.heap.size by omega)).trans k1
  replace cR := cs_below cR hb (by omega)
  replace fR := fs_below fR hb (by omega)
  replace HBa := HBa.trans (hb.mono (by omega))
  replace zs := Nat.lt_of_lt_of_le zs hb.size
  clear hb CK
  go_upto_region 2 with fail
  go_step
  refine wpList_plain rfl (fun K hK => ?_)
  go_big_op
  refine hK _ _ ?_
  clear hK K
  refine store18 (.tmp 4) (.tmp 15) (w.heap.size + 1) (fun _ => 0) (fun _ => 0) cR fR rfl rfl rfl rfl ?_
  intro wx cX fX sX bX
  have HBx := bX w.heap.size w (by omega) HBa
  clear cR fR HBa bX fX sX
  go_wp2
  refine bodyPost_ret (res_mat2 (v := .int .i64 8) Try.results27 rfl rfl cX) rfl ?_
  exact ⟨rfl, HBx⟩

set_option maxRecDepth 100000 in
set_option maxHeartbeats 6400000 in
theorem ref2_turn_low (n d : Int) (axis : Int) (ha : axis < 0) (CK : ∀ w : World, Calls Try.prog 59 #[.agg #[.int .i64 n, .int .i64 d]] w fun x w' => x = .returned (.int .i64 0) ∧ Below w.heap.size w w') (w : World) :
    Calls Try.prog 27 #[.int .i64 axis, .agg #[.int .i64 n, .int .i64 d]] w fun x w' => x = .returned (.tuple #[.agg #[.int .i64 ((fun _ => 0) 0), .int .i64 ((fun _ => 0) 1), .int .i64 ((fun _ => 0) 2), .int .i64 ((fun _ => 0) 3), .int .i64 ((fun _ => 0) 4), .int .i64 ((fun _ => 0) 5), .int .i64 ((fun _ => 0) 6), .int .i64 ((fun _ => 0) 7), .int .i64 ((fun _ => 0) 8), .int .i64 ((fun _ => 0) 9), .int .i64 ((fun _ => 0) 10), .int .i64 ((fun _ => 0) 11), .int .i64 ((fun _ => 0) 12), .int .i64 ((fun _ => 0) 13), .int .i64 ((fun _ => 0) 14), .int .i64 ((fun _ => 0) 15), .int .i64 ((fun _ => 0) 16), .int .i64 ((fun _ => 0) 17)], .int .i64 2]) ∧ Below w.heap.size w w' := by
  have xR := xRul
  have dz1 := dzA
  have dz2 := dzB
  go_enter Try.func27, Try.ntmps27
  go_upto_region 1 with fail
  refine opq (fun wx => wx.cell? ⟨w.heap.size, 0, none⟩ = some (.int .i64 n) ∧ wx.cell? ⟨w.heap.size, 1, none⟩ = some (.int .i64 d) ∧ Cs wx (w.heap.size + 1) 18 (fun _ => 0) ∧ Fs wx (w.heap.size + 1) 18 ∧ w.heap.size + 1 < wx.heap.size ∧ Below w.heap.size w wx) ?_ ?_
  · exact ⟨kk, kk, cs_new (by simp) arr0, fs_new (by simp), by simp, kb⟩
  rintro wz ⟨k0, k1, cR, fR, zs, HBa⟩
  go_wp2_with fail
  with_reducible refine (CK _).mono ?_
  rintro e w1 ⟨rfl, hb⟩
  replace k0 : w1.cell? ⟨w.heap.size, 0, none⟩ = some (.int .i64 n) := (hb.cell (show w.heap.size < wz.heap.size by omega)).trans k0
  replace k1 : w1.cell? ⟨w.heap.size, 1, none⟩ = some (.int .i64 d) := (hb.cell (show w.heap.size < wz.heap.size by omega)).trans k1
  replace cR := cs_below cR hb (by omega)
  replace fR := fs_below fR hb (by omega)
  replace HBa := HBa.trans (hb.mono (by omega))
  replace zs := Nat.lt_of_lt_of_le zs hb.size
  clear hb CK
  go_upto_region 4 with fail
  go_step
  refine wpList_plain rfl (fun K hK => ?_)
  go_big_op
  refine hK _ _ ?_
  clear hK K
  refine store18 (.tmp 4) (.tmp 22) (w.heap.size + 1) (fun _ => 0) (fun _ => 0) cR fR rfl rfl rfl rfl ?_
  intro wx cX fX sX bX
  have HBx := bX w.heap.size w (by omega) HBa
  clear cR fR HBa bX fX sX
  go_wp2
  refine bodyPost_ret (res_mat2 (v := .int .i64 2) Try.results27 rfl rfl cX) rfl ?_
  exact ⟨rfl, HBx⟩

set_option maxRecDepth 100000 in
set_option maxHeartbeats 6400000 in
theorem ref2_turn_high (n d : Int) (axis : Int) (ha : ¬ axis < 0) (hb2 : 2 < axis) (CK : ∀ w : World, Calls Try.prog 59 #[.agg #[.int .i64 n, .int .i64 d]] w fun x w' => x = .returned (.int .i64 0) ∧ Below w.heap.size w w') (w : World) :
    Calls Try.prog 27 #[.int .i64 axis, .agg #[.int .i64 n, .int .i64 d]] w fun x w' => x = .returned (.tuple #[.agg #[.int .i64 ((fun _ => 0) 0), .int .i64 ((fun _ => 0) 1), .int .i64 ((fun _ => 0) 2), .int .i64 ((fun _ => 0) 3), .int .i64 ((fun _ => 0) 4), .int .i64 ((fun _ => 0) 5), .int .i64 ((fun _ => 0) 6), .int .i64 ((fun _ => 0) 7), .int .i64 ((fun _ => 0) 8), .int .i64 ((fun _ => 0) 9), .int .i64 ((fun _ => 0) 10), .int .i64 ((fun _ => 0) 11), .int .i64 ((fun _ => 0) 12), .int .i64 ((fun _ => 0) 13), .int .i64 ((fun _ => 0) 14), .int .i64 ((fun _ => 0) 15), .int .i64 ((fun _ => 0) 16), .int .i64 ((fun _ => 0) 17)], .int .i64 2]) ∧ Below w.heap.size w w' := by
  have xR := xRul
  have dz1 := dzA
  have dz2 := dzB
  go_enter Try.func27, Try.ntmps27
  go_upto_region 1 with fail
  refine opq (fun wx => wx.cell? ⟨w.heap.size, 0, none⟩ = some (.int .i64 n) ∧ wx.cell? ⟨w.heap.size, 1, none⟩ = some (.int .i64 d) ∧ Cs wx (w.heap.size + 1) 18 (fun _ => 0) ∧ Fs wx (w.heap.size + 1) 18 ∧ w.heap.size + 1 < wx.heap.size ∧ Below w.heap.size w wx) ?_ ?_
  · exact ⟨kk, kk, cs_new (by simp) arr0, fs_new (by simp), by simp, kb⟩
  rintro wz ⟨k0, k1, cR, fR, zs, HBa⟩
  go_wp2_with fail
  with_reducible refine (CK _).mono ?_
  rintro e w1 ⟨rfl, hb⟩
  replace k0 : w1.cell? ⟨w.heap.size, 0, none⟩ = some (.int .i64 n) := (hb.cell (show w.heap.size < wz.heap.size by omega)).trans k0
  replace k1 : w1.cell? ⟨w.heap.size, 1, none⟩ = some (.int .i64 d) := (hb.cell (show w.heap.size < wz.heap.size by omega)).trans k1
  replace cR := cs_below cR hb (by omega)
  replace fR := fs_below fR hb (by omega)
  replace HBa := HBa.trans (hb.mono (by omega))
  replace zs := Nat.lt_of_lt_of_le zs hb.size
  clear hb CK
  go_upto_region 4 with fail
  go_step
  refine wpList_plain rfl (fun K hK => ?_)
  go_big_op
  refine hK _ _ ?_
  clear hK K
  refine store18 (.tmp 4) (.tmp 22) (w.heap.size + 1) (fun _ => 0) (fun _ => 0) cR fR rfl rfl rfl rfl ?_
  intro wx cX fX sX bX
  have HBx := bX w.heap.size w (by omega) HBa
  clear cR fR HBa bX fX sX
  go_wp2
  refine bodyPost_ret (res_mat2 (v := .int .i64 2) Try.results27 rfl rfl cX) rfl ?_
  exact ⟨rfl, HBx⟩

set_option maxRecDepth 100000 in
set_option maxHeartbeats 6400000 in
theorem ref2_turn_err0 (n d : Int) (c1 c2 s1 s2 e0 : Int) (he : (e0 == 0) = false) (CK : ∀ w : World, Calls Try.prog 59 #[.agg #[.int .i64 n, .int .i64 d]] w fun x w' => x = .returned (.int .i64 0) ∧ Below w.heap.size w w') (CI : ∀ w : World, Calls Try.prog 60 #[.agg #[.int .i64 n, .int .i64 d]] w fun x w' => x = .returned (.tuple #[.agg #[.int .i64 c1, .int .i64 c2], .agg #[.int .i64 s1, .int .i64 s2], .int .i64 e0]) ∧ Below w.heap.size w w') (w : World) :
    Calls Try.prog 27 #[.int .i64 0, .agg #[.int .i64 n, .int .i64 d]] w fun x w' => x = .returned (.tuple #[.agg #[.int .i64 ((fun _ => 0) 0), .int .i64 ((fun _ => 0) 1), .int .i64 ((fun _ => 0) 2), .int .i64 ((fun _ => 0) 3), .int .i64 ((fun _ => 0) 4), .int .i64 ((fun _ => 0) 5), .int .i64 ((fun _ => 0) 6), .int .i64 ((fun _ => 0) 7), .int .i64 ((fun _ => 0) 8), .int .i64 ((fun _ => 0) 9), .int .i64 ((fun _ => 0) 10), .int .i64 ((fun _ => 0) 11), .int .i64 ((fun _ => 0) 12), .int .i64 ((fun _ => 0) 13), .int .i64 ((fun _ => 0) 14), .int .i64 ((fun _ => 0) 15), .int .i64 ((fun _ => 0) 16), .int .i64 ((fun _ => 0) 17)], .int .i64 e0]) ∧ Below w.heap.size w w' := by
  have xR := xRul
  have dz1 := dzA
  have dz2 := dzB
  go_enter Try.func27, Try.ntmps27
  go_upto_region 1 with fail
  refine opq (fun wx => wx.cell? ⟨w.heap.size, 0, none⟩ = some (.int .i64 n) ∧ wx.cell? ⟨w.heap.size, 1, none⟩ = some (.int .i64 d) ∧ Cs wx (w.heap.size + 1) 18 (fun _ => 0) ∧ Fs wx (w.heap.size + 1) 18 ∧ w.heap.size + 1 < wx.heap.size ∧ Below w.heap.size w wx) ?_ ?_
  · exact ⟨kk, kk, cs_new (by simp) arr0, fs_new (by simp), by simp, kb⟩
  rintro wz ⟨k0, k1, cR, fR, zs, HBa⟩
  go_wp2_with fail
  with_reducible refine (CK _).mono ?_
  rintro e w1 ⟨rfl, hb⟩
  replace k0 : w1.cell? ⟨w.heap.size, 0, none⟩ = some (.int .i64 n) := (hb.cell (show w.heap.size < wz.heap.size by omega)).trans k0
  replace k1 : w1.cell? ⟨w.heap.size, 1, none⟩ = some (.int .i64 d) := (hb.cell (show w.heap.size < wz.heap.size by omega)).trans k1
  replace cR := cs_below cR hb (by omega)
  replace fR := fs_below fR hb (by omega)
  replace HBa := HBa.trans (hb.mono (by omega))
  replace zs := Nat.lt_of_lt_of_le zs hb.size
  clear hb CK
  go_wp2_with fail
  with_reducible refine (CI _).mono ?_
  rintro e w2 ⟨rfl, hb⟩
  replace cR := cs_below cR hb (by omega)
  replace fR := fs_below fR hb (by omega)
  replace HBa := HBa.trans (hb.mono (by omega))
  replace zs := Nat.lt_of_lt_of_le zs hb.size
  clear hb CI k0 k1
  go_upto_region 7 with fail
  refine opq (fun wx => Cs wx (w.heap.size + 1) 18 (fun _ => 0) ∧ Fs wx (w.heap.size + 1) 18 ∧ Below w.heap.size w wx) ?_ ?_
  · exact ⟨kc, kf, kg⟩
  clear cR fR HBa zs
  rintro wy ⟨cR, fR, HBa⟩
  go_upto_region 7 with fail
  go_step
  refine wpList_plain rfl (fun K hK => ?_)
  go_big_op
  refine hK _ _ ?_
  clear hK K
  refine wpList_plain rfl (fun K hK => ?_)
  go_big_op
  refine hK _ _ ?_
  clear hK K
  refine store18 (.tmp 4) (.tmp 31) (w.heap.size + 1) (fun _ => 0) (fun _ => 0) cR fR rfl rfl rfl rfl ?_
  intro wx cX fX sX bX
  have HBx := bX w.heap.size w (by omega) HBa
  clear cR fR HBa bX fX sX
  go_wp2
  refine bodyPost_ret (res_mat2 (v := .int .i64 e0) Try.results27 rfl rfl cX) rfl ?_
  exact ⟨rfl, HBx⟩

set_option maxRecDepth 100000 in
set_option maxHeartbeats 6400000 in
theorem ref2_turn_err1 (n d : Int) (c1 c2 s1 s2 e0 : Int) (he : (e0 == 0) = false) (CK : ∀ w : World, Calls Try.prog 59 #[.agg #[.int .i64 n, .int .i64 d]] w fun x w' => x = .returned (.int .i64 0) ∧ Below w.heap.size w w') (CI : ∀ w : World, Calls Try.prog 60 #[.agg #[.int .i64 n, .int .i64 d]] w fun x w' => x = .returned (.tuple #[.agg #[.int .i64 c1, .int .i64 c2], .agg #[.int .i64 s1, .int .i64 s2], .int .i64 e0]) ∧ Below w.heap.size w w') (w : World) :
    Calls Try.prog 27 #[.int .i64 1, .agg #[.int .i64 n, .int .i64 d]] w fun x w' => x = .returned (.tuple #[.agg #[.int .i64 ((fun _ => 0) 0), .int .i64 ((fun _ => 0) 1), .int .i64 ((fun _ => 0) 2), .int .i64 ((fun _ => 0) 3), .int .i64 ((fun _ => 0) 4), .int .i64 ((fun _ => 0) 5), .int .i64 ((fun _ => 0) 6), .int .i64 ((fun _ => 0) 7), .int .i64 ((fun _ => 0) 8), .int .i64 ((fun _ => 0) 9), .int .i64 ((fun _ => 0) 10), .int .i64 ((fun _ => 0) 11), .int .i64 ((fun _ => 0) 12), .int .i64 ((fun _ => 0) 13), .int .i64 ((fun _ => 0) 14), .int .i64 ((fun _ => 0) 15), .int .i64 ((fun _ => 0) 16), .int .i64 ((fun _ => 0) 17)], .int .i64 e0]) ∧ Below w.heap.size w w' := by
  have xR := xRul
  have dz1 := dzA
  have dz2 := dzB
  go_enter Try.func27, Try.ntmps27
  go_upto_region 1 with fail
  refine opq (fun wx => wx.cell? ⟨w.heap.size, 0, none⟩ = some (.int .i64 n) ∧ wx.cell? ⟨w.heap.size, 1, none⟩ = some (.int .i64 d) ∧ Cs wx (w.heap.size + 1) 18 (fun _ => 0) ∧ Fs wx (w.heap.size + 1) 18 ∧ w.heap.size + 1 < wx.heap.size ∧ Below w.heap.size w wx) ?_ ?_
  · exact ⟨kk, kk, cs_new (by simp) arr0, fs_new (by simp), by simp, kb⟩
  rintro wz ⟨k0, k1, cR, fR, zs, HBa⟩
  go_wp2_with fail
  with_reducible refine (CK _).mono ?_
  rintro e w1 ⟨rfl, hb⟩
  replace k0 : w1.cell? ⟨w.heap.size, 0, none⟩ = some (.int .i64 n) := (hb.cell (show w.heap.size < wz.heap.size by omega)).trans k0
  replace k1 : w1.cell? ⟨w.heap.size, 1, none⟩ = some (.int .i64 d) := (hb.cell (show w.heap.size < wz.heap.size by omega)).trans k1
  replace cR := cs_below cR hb (by omega)
  replace fR := fs_below fR hb (by omega)
  replace HBa := HBa.trans (hb.mono (by omega))
  replace zs := Nat.lt_of_lt_of_le zs hb.size
  clear hb CK
  go_wp2_with fail
  with_reducible refine (CI _).mono ?_
  rintro e w2 ⟨rfl, hb⟩
  replace cR := cs_below cR hb (by omega)
  replace fR := fs_below fR hb (by omega)
  replace HBa := HBa.trans (hb.mono (by omega))
  replace zs := Nat.lt_of_lt_of_le zs hb.size
  clear hb CI k0 k1
  go_upto_region 7 with fail
  refine opq (fun wx => Cs wx (w.heap.size + 1) 18 (fun _ => 0) ∧ Fs wx (w.heap.size + 1) 18 ∧ Below w.heap.size w wx) ?_ ?_
  · exact ⟨kc, kf, kg⟩
  clear cR fR HBa zs
  rintro wy ⟨cR, fR, HBa⟩
  go_upto_region 7 with fail
  go_step
  refine wpList_plain rfl (fun K hK => ?_)
  go_big_op
  refine hK _ _ ?_
  clear hK K
  refine wpList_plain rfl (fun K hK => ?_)
  go_big_op
  refine hK _ _ ?_
  clear hK K
  refine store18 (.tmp 4) (.tmp 31) (w.heap.size + 1) (fun _ => 0) (fun _ => 0) cR fR rfl rfl rfl rfl ?_
  intro wx cX fX sX bX
  have HBx := bX w.heap.size w (by omega) HBa
  clear cR fR HBa bX fX sX
  go_wp2
  refine bodyPost_ret (res_mat2 (v := .int .i64 e0) Try.results27 rfl rfl cX) rfl ?_
  exact ⟨rfl, HBx⟩

set_option maxRecDepth 100000 in
set_option maxHeartbeats 6400000 in
theorem ref2_turn_err2 (n d : Int) (c1 c2 s1 s2 e0 : Int) (he : (e0 == 0) = false) (CK : ∀ w : World, Calls Try.prog 59 #[.agg #[.int .i64 n, .int .i64 d]] w fun x w' => x = .returned (.int .i64 0) ∧ Below w.heap.size w w') (CI : ∀ w : World, Calls Try.prog 60 #[.agg #[.int .i64 n, .int .i64 d]] w fun x w' => x = .returned (.tuple #[.agg #[.int .i64 c1, .int .i64 c2], .agg #[.int .i64 s1, .int .i64 s2], .int .i64 e0]) ∧ Below w.heap.size w w') (w : World) :
    Calls Try.prog 27 #[.int .i64 2, .agg #[.int .i64 n, .int .i64 d]] w fun x w' => x = .returned (.tuple #[.agg #[.int .i64 ((fun _ => 0) 0), .int .i64 ((fun _ => 0) 1), .int .i64 ((fun _ => 0) 2), .int .i64 ((fun _ => 0) 3), .int .i64 ((fun _ => 0) 4), .int .i64 ((fun _ => 0) 5), .int .i64 ((fun _ => 0) 6), .int .i64 ((fun _ => 0) 7), .int .i64 ((fun _ => 0) 8), .int .i64 ((fun _ => 0) 9), .int .i64 ((fun _ => 0) 10), .int .i64 ((fun _ => 0) 11), .int .i64 ((fun _ => 0) 12), .int .i64 ((fun _ => 0) 13), .int .i64 ((fun _ => 0) 14), .int .i64 ((fun _ => 0) 15), .int .i64 ((fun _ => 0) 16), .int .i64 ((fun _ => 0) 17)], .int .i64 e0]) ∧ Below w.heap.size w w' := by
  have xR := xRul
  have dz1 := dzA
  have dz2 := dzB
  go_enter Try.func27, Try.ntmps27
  go_upto_region 1 with fail
  refine opq (fun wx => wx.cell? ⟨w.heap.size, 0, none⟩ = some (.int .i64 n) ∧ wx.cell? ⟨w.heap.size, 1, none⟩ = some (.int .i64 d) ∧ Cs wx (w.heap.size + 1) 18 (fun _ => 0) ∧ Fs wx (w.heap.size + 1) 18 ∧ w.heap.size + 1 < wx.heap.size ∧ Below w.heap.size w wx) ?_ ?_
  · exact ⟨kk, kk, cs_new (by simp) arr0, fs_new (by simp), by simp, kb⟩
  rintro wz ⟨k0, k1, cR, fR, zs, HBa⟩
  go_wp2_with fail
  with_reducible refine (CK _).mono ?_
  rintro e w1 ⟨rfl, hb⟩
  replace k0 : w1.cell? ⟨w.heap.size, 0, none⟩ = some (.int .i64 n) := (hb.cell (show w.heap.size < wz.heap.size by omega)).trans k0
  replace k1 : w1.cell? ⟨w.heap.size, 1, none⟩ = some (.int .i64 d) := (hb.cell (show w.heap.size < wz.heap.size by omega)).trans k1
  replace cR := cs_below cR hb (by omega)
  replace fR := fs_below fR hb (by omega)
  replace HBa := HBa.trans (hb.mono (by omega))
  replace zs := Nat.lt_of_lt_of_le zs hb.size
  clear hb CK
  go_wp2_with fail
  with_reducible refine (CI _).mono ?_
  rintro e w2 ⟨rfl, hb⟩
  replace cR := cs_below cR hb (by omega)
  replace fR := fs_below fR hb (by omega)
  replace HBa := HBa.trans (hb.mono (by omega))
  replace zs := Nat.lt_of_lt_of_le zs hb.size
  clear hb CI k0 k1
  go_upto_region 7 with fail
  refine opq (fun wx => Cs wx (w.heap.size + 1) 18 (fun _ => 0) ∧ Fs wx (w.heap.size + 1) 18 ∧ Below w.heap.size w wx) ?_ ?_
  · exact ⟨kc, kf, kg⟩
  clear cR fR HBa zs
  rintro wy ⟨cR, fR, HBa⟩
  go_upto_region 7 with fail
  go_step
  refine wpList_plain rfl (fun K hK => ?_)
  go_big_op
  refine hK _ _ ?_
  clear hK K
  refine wpList_plain rfl (fun K hK => ?_)
  go_big_op
  refine hK _ _ ?_
  clear hK K
  refine store18 (.tmp 4) (.tmp 31) (w.heap.size + 1) (fun _ => 0) (fun _ => 0) cR fR rfl rfl rfl rfl ?_
  intro wx cX fX sX bX
  have HBx := bX w.heap.size w (by omega) HBa
  clear cR fR HBa bX fX sX
  go_wp2
  refine bodyPost_ret (res_mat2 (v := .int .i64 e0) Try.results27 rfl rfl cX) rfl ?_
  exact ⟨rfl, HBx⟩

set_option maxRecDepth 100000 in
set_option maxHeartbeats 6400000 in
theorem ref2_turn_ok0 (n d : Int) (c1 c2 s1 s2 : Int) (CK : ∀ w : World, Calls Try.prog 59 #[.agg #[.int .i64 n, .int .i64 d]] w fun x w' => x = .returned (.int .i64 0) ∧ Below w.heap.size w w') (CI : ∀ w : World, Calls Try.prog 60 #[.agg #[.int .i64 n, .int .i64 d]] w fun x w' => x = .returned (.tuple #[.agg #[.int .i64 c1, .int .i64 c2], .agg #[.int .i64 s1, .int .i64 s2], .int .i64 0]) ∧ Below w.heap.size w w') (U : ∀ w : World, Calls Try.prog 12 #[] w fun x w' => x = .returned (.agg #[.int .i64 (unP 0), .int .i64 (unP 1), .int .i64 (unP 2), .int .i64 (unP 3), .int .i64 (unP 4), .int .i64 (unP 5), .int .i64 (unP 6), .int .i64 (unP 7), .int .i64 (unP 8), .int .i64 (unP 9), .int .i64 (unP 10), .int .i64 (unP 11), .int .i64 (unP 12), .int .i64 (unP 13), .int .i64 (unP 14), .int .i64 (unP 15), .int .i64 (unP 16), .int .i64 (unP 17)]) ∧ Below w.heap.size w w') (MI : ∀ w : World, Calls Try.prog 61 #[.agg #[.int .i64 s1, .int .i64 s2]] w fun x w' => x = .returned (.agg #[.int .i64 (-s1), .int .i64 s2]) ∧ Below w.heap.size w w') (w : World) :
    Calls Try.prog 27 #[.int .i64 0, .agg #[.int .i64 n, .int .i64 d]] w fun x w' => x = .returned (.tuple #[.agg #[.int .i64 ((tuN 0 c1 c2 s1 s2) 0), .int .i64 ((tuN 0 c1 c2 s1 s2) 1), .int .i64 ((tuN 0 c1 c2 s1 s2) 2), .int .i64 ((tuN 0 c1 c2 s1 s2) 3), .int .i64 ((tuN 0 c1 c2 s1 s2) 4), .int .i64 ((tuN 0 c1 c2 s1 s2) 5), .int .i64 ((tuN 0 c1 c2 s1 s2) 6), .int .i64 ((tuN 0 c1 c2 s1 s2) 7), .int .i64 ((tuN 0 c1 c2 s1 s2) 8), .int .i64 ((tuN 0 c1 c2 s1 s2) 9), .int .i64 ((tuN 0 c1 c2 s1 s2) 10), .int .i64 ((tuN 0 c1 c2 s1 s2) 11), .int .i64 ((tuN 0 c1 c2 s1 s2) 12), .int .i64 ((tuN 0 c1 c2 s1 s2) 13), .int .i64 ((tuN 0 c1 c2 s1 s2) 14), .int .i64 ((tuN 0 c1 c2 s1 s2) 15), .int .i64 ((tuN 0 c1 c2 s1 s2) 16), .int .i64 ((tuN 0 c1 c2 s1 s2) 17)], .int .i64 0]) ∧ Below w.heap.size w w' := by
  have xR := xRul
  have dz1 := dzA
  have dz2 := dzB
  go_enter Try.func27, Try.ntmps27
  go_upto_region 1 with fail
  refine opq (fun wx => wx.cell? ⟨w.heap.size, 0, none⟩ = some (.int .i64 n) ∧ wx.cell? ⟨w.heap.size, 1, none⟩ = some (.int .i64 d) ∧ Cs wx (w.heap.size + 1) 18 (fun _ => 0) ∧ Fs wx (w.heap.size + 1) 18 ∧ w.heap.size + 1 < wx.heap.size ∧ Below w.heap.size w wx) ?_ ?_
  · exact ⟨kk, kk, cs_new (by simp) arr0, fs_new (by simp), by simp, kb⟩
  rintro wz ⟨k0, k1, cR, fR, zs, HBa⟩
  go_wp2_with fail
  with_reducible refine (CK _).mono ?_
  rintro e w1 ⟨rfl, hb⟩
  replace k0 : w1.cell? ⟨w.heap.size, 0, none⟩ = some (.int .i64 n) := (hb.cell (show w.heap.size < wz.heap.size by omega)).trans k0
  replace k1 : w1.cell? ⟨w.heap.size, 1, none⟩ = some (.int .i64 d) := (hb.cell (show w.heap.size < wz.heap.size by omega)).trans k1
  replace cR := cs_below cR hb (by omega)
  replace fR := fs_below fR hb (by omega)
  replace HBa := HBa.trans (hb.mono (by omega))
  replace zs := Nat.lt_of_lt_of_le zs hb.size
  clear hb CK
  go_wp2_with fail
  with_reducible refine (CI _).mono ?_
  rintro e w2 ⟨rfl, hb⟩
  replace cR := cs_below cR hb (by omega)
  replace fR := fs_below fR hb (by omega)
  replace HBa := HBa.trans (hb.mono (by omega))
  replace zs := Nat.lt_of_lt_of_le zs hb.size
  clear hb CI k0 k1
  go_upto_region 8 with fail
  refine opq (fun wx => Cs wx (w.heap.size + 1) 18 (fun _ => 0) ∧ Fs wx (w.heap.size + 1) 18 ∧ wx.cell? ⟨w2.heap.size, 0, none⟩ = some (.int .i64 c1) ∧ wx.cell? ⟨w2.heap.size, 1, none⟩ = some (.int .i64 c2) ∧ wx.cell? ⟨w2.heap.size + 1, 0, none⟩ = some (.int .i64 s1) ∧ wx.cell? ⟨w2.heap.size + 1, 1, none⟩ = some (.int .i64 s2) ∧ w2.heap.size + 1 < wx.heap.size ∧ Below w.heap.size w wx) ?_ ?_
  · exact ⟨kc, kf, kk, kk, kk, kk, by simp [World.setCell], kg⟩
  clear cR fR HBa
  generalize hq : w2.heap.size = q
  have zq0 : w.heap.size + 1 < q := by omega
  clear hq zs
  rintro wy ⟨cR, fR, a0, a1, a2, a3, zs, HBa⟩
  go_step
  refine wpList_plain rfl (fun K hK => ?_)
  go_big_op
  with_reducible refine (U _).mono ?_
  rintro e w3 ⟨rfl, hb⟩
  simp only []
  refine hK _ _ ?_
  clear hK K
  replace a0 : w3.cell? ⟨q, 0, none⟩ = some (.int .i64 c1) := (hb.cell (show q < wy.heap.size by omega)).trans a0
  replace a1 : w3.cell? ⟨q, 1, none⟩ = some (.int .i64 c2) := (hb.cell (show q < wy.heap.size by omega)).trans a1
  replace a2 : w3.cell? ⟨q + 1, 0, none⟩ = some (.int .i64 s1) := (hb.cell (show q + 1 < wy.heap.size by omega)).trans a2
  replace a3 : w3.cell? ⟨q + 1, 1, none⟩ = some (.int .i64 s2) := (hb.cell (show q + 1 < wy.heap.size by omega)).trans a3
  replace cR := cs_below cR hb (by omega)
  replace fR := fs_below fR hb (by omega)
  replace HBa := HBa.trans (hb.mono (by omega))
  replace zs := Nat.lt_of_lt_of_le zs hb.size
  clear hb U
  refine wpList_plain rfl (fun K hK => ?_)
  go_big_op
  refine hK _ _ ?_
  clear hK K
  refine store18 (.tmp 9) (.tmp 33) w3.heap.size unP (fun _ => 0) (cs_new rfl arr0) (fs_new rfl) rfl rfl rfl rfl ?_
  intro wa cU fU sX bX
  have hb := bX w3.heap.size w3 (Nat.le_refl _) (bal (b0 _) _)
  have zg : w3.heap.size < wa.heap.size := by rw [sX]; simp
  have zqg : q + 1 < w3.heap.size := zs
  replace a0 : wa.cell? ⟨q, 0, none⟩ = some (.int .i64 c1) := (hb.cell (show q < w3.heap.size by omega)).trans a0
  replace a1 : wa.cell? ⟨q, 1, none⟩ = some (.int .i64 c2) := (hb.cell (show q < w3.heap.size by omega)).trans a1
  replace a2 : wa.cell? ⟨q + 1, 0, none⟩ = some (.int .i64 s1) := (hb.cell (show q + 1 < w3.heap.size by omega)).trans a2
  replace a3 : wa.cell? ⟨q + 1, 1, none⟩ = some (.int .i64 s2) := (hb.cell (show q + 1 < w3.heap.size by omega)).trans a3
  replace cR := cs_below cR hb (by omega)
  replace fR := fs_below fR hb (by omega)
  replace HBa := HBa.trans (hb.mono (by omega))
  replace zs := Nat.lt_of_lt_of_le zs hb.size
  clear hb bX sX
  generalize w3.heap.size = g at *
  have cg : ∀ o, o < 18 → wa.cell? ⟨g, o, none⟩ = some (.int .i64 (unP o)) := cU
  have fg : ∀ o, o < 18 → wa.frozen? ⟨g, o, none⟩ = false := fU
  have y1 : q < wa.heap.size := by omega
  have y2 : (g = q) = False := eq_false (by omega)
  have y3 : (g = q + 1) = False := eq_false (by omega)
  have y4 : (q = g) = False := eq_false (by omega)
  have y5 : (q + 1 = g) = False := eq_false (by omega)
  go_wp2_with fail
  go_region_held3 (fun w' => w'.cell? ⟨q, 0, none⟩ = some (.int .i64 c1) ∧ w'.cell? ⟨q, 1, none⟩ = some (.int .i64 c2) ∧ w'.cell? ⟨q + 1, 0, none⟩ = some (.int .i64 s1) ∧ w'.cell? ⟨q + 1, 1, none⟩ = some (.int .i64 s2)) (simp (maxDischargeDepth := 8) [go_sem, kp, *])
    (fail)
  all_goals (try go_wp2_with fail)
  all_goals go_region_held3 (fun w' => w'.cell? ⟨q, 0, none⟩ = some (.int .i64 c1) ∧ w'.cell? ⟨q, 1, none⟩ = some (.int .i64 c2) ∧ w'.cell? ⟨q + 1, 0, none⟩ = some (.int .i64 s1) ∧ w'.cell? ⟨q + 1, 1, none⟩ = some (.int .i64 s2)) (simp (maxDischargeDepth := 8) [go_sem, kp, *])
    ((go_at_call 61; with_reducible refine (MI _).mono ?_; rintro e w' ⟨rfl, hb⟩; obtain ⟨l9, d9, rfl⟩ := toExt hb; clear hb))
  all_goals go_upto_region 12 with fail
  all_goals (refine opq (fun wx => Cs wx g 18 (tuN 0 c1 c2 s1 s2) ∧ Cs wx (w.heap.size + 1) 18 (fun _ => 0) ∧ Fs wx (w.heap.size + 1) 18 ∧ Below w.heap.size w wx) ⟨cs_eq (N := up (up (up (up (up (up (up (up (unP) 8 (c1)) 9 (c2)) 16 (c1)) 17 (c2)) 10 (-s1)) 11 (s2)) 14 (s1)) 15 (s2)) (kc) (by apply cases18 <;> rfl), kc, kf, kg⟩ ?_; clear cU fU cR fR HBa cg fg; rintro wv ⟨cU, cR, fR, HBa⟩)
  all_goals go_step
  all_goals (refine load18 (.tmp 9) _ _ cU rfl rfl rfl ?_; refine store18 (.tmp 4) (.tmp 61) (w.heap.size + 1) (tuN 0 c1 c2 s1 s2) (fun _ => 0) cR fR rfl rfl rfl rfl ?_; intro wx cX fX sX bX; have HBx := bX w.heap.size w (by omega) HBa; clear cR fR HBa bX fX sX)
  all_goals go_wp2
  all_goals (refine bodyPost_ret (res_mat2 (v := .int .i64 0) Try.results27 rfl rfl cX) rfl ?_; exact ⟨rfl, HBx⟩)

set_option maxRecDepth 100000 in
set_option maxHeartbeats 6400000 in
theorem ref2_turn_ok1 (n d : Int) (c1 c2 s1 s2 : Int) (CK : ∀ w : World, Calls Try.prog 59 #[.agg #[.int .i64 n, .int .i64 d]] w fun x w' => x = .returned (.int .i64 0) ∧ Below w.heap.size w w') (CI : ∀ w : World, Calls Try.prog 60 #[.agg #[.int .i64 n, .int .i64 d]] w fun x w' => x = .returned (.tuple #[.agg #[.int .i64 c1, .int .i64 c2], .agg #[.int .i64 s1, .int .i64 s2], .int .i64 0]) ∧ Below w.heap.size w w') (U : ∀ w : World, Calls Try.prog 12 #[] w fun x w' => x = .returned (.agg #[.int .i64 (unP 0), .int .i64 (unP 1), .int .i64 (unP 2), .int .i64 (unP 3), .int .i64 (unP 4), .int .i64 (unP 5), .int .i64 (unP 6), .int .i64 (unP 7), .int .i64 (unP 8), .int .i64 (unP 9), .int .i64 (unP 10), .int .i64 (unP 11), .int .i64 (unP 12), .int .i64 (unP 13), .int .i64 (unP 14), .int .i64 (unP 15), .int .i64 (unP 16), .int .i64 (unP 17)]) ∧ Below w.heap.size w w') (MI : ∀ w : World, Calls Try.prog 61 #[.agg #[.int .i64 s1, .int .i64 s2]] w fun x w' => x = .returned (.agg #[.int .i64 (-s1), .int .i64 s2]) ∧ Below w.heap.size w w') (w : World) :
    Calls Try.prog 27 #[.int .i64 1, .agg #[.int .i64 n, .int .i64 d]] w fun x w' => x = .returned (.tuple #[.agg #[.int .i64 ((tuN 1 c1 c2 s1 s2) 0), .int .i64 ((tuN 1 c1 c2 s1 s2) 1), .int .i64 ((tuN 1 c1 c2 s1 s2) 2), .int .i64 ((tuN 1 c1 c2 s1 s2) 3), .int .i64 ((tuN 1 c1 c2 s1 s2) 4), .int .i64 ((tuN 1 c1 c2 s1 s2) 5), .int .i64 ((tuN 1 c1 c2 s1 s2) 6), .int .i64 ((tuN 1 c1 c2 s1 s2) 7), .int .i64 ((tuN 1 c1 c2 s1 s2) 8), .int .i64 ((tuN 1 c1 c2 s1 s2) 9), .int .i64 ((tuN 1 c1 c2 s1 s2) 10), .int .i64 ((tuN 1 c1 c2 s1 s2) 11), .int .i64 ((tuN 1 c1 c2 s1 s2) 12), .int .i64 ((tuN 1 c1 c2 s1 s2) 13), .int .i64 ((tuN 1 c1 c2 s1 s2) 14), .int .i64 ((tuN 1 c1 c2 s1 s2) 15), .int .i64 ((tuN 1 c1 c2 s1 s2) 16), .int .i64 ((tuN 1 c1 c2 s1 s2) 17)], .int .i64 0]) ∧ Below w.heap.size w w' := by
  have xR := xRul
  have dz1 := dzA
  have dz2 := dzB
  go_enter Try.func27, Try.ntmps27
  go_upto_region 1 with fail
  refine opq (fun wx => wx.cell? ⟨w.heap.size, 0, none⟩ = some (.int .i64 n) ∧ wx.cell? ⟨w.heap.size, 1, none⟩ = some (.int .i64 d) ∧ Cs wx (w.heap.size + 1) 18 (fun _ => 0) ∧ Fs wx (w.heap.size + 1) 18 ∧ w.heap.size + 1 < wx.heap.size ∧ Below w.heap.size w wx) ?_ ?_
  · exact ⟨kk, kk, cs_new (by simp) arr0, fs_new (by simp), by simp, kb⟩
  rintro wz ⟨k0, k1, cR, fR, zs, HBa⟩
  go_wp2_with fail
  with_reducible refine (CK _).mono ?_
  rintro e w1 ⟨rfl, hb⟩
  replace k0 : w1.cell? ⟨w.heap.size, 0, none⟩ = some (.int .i64 n) := (hb.cell (show w.heap.size < wz.heap.size by omega)).trans k0
  replace k1 : w1.cell? ⟨w.heap.size, 1, none⟩ = some (.int .i64 d) := (hb.cell (show w.heap.size < wz.heap.size by omega)).trans k1
  replace cR := cs_below cR hb (by omega)
  replace fR := fs_below fR hb (by omega)
  replace HBa := HBa.trans (hb.mono (by omega))
  replace zs := Nat.lt_of_lt_of_le zs hb.size
  clear hb CK
  go_wp2_with fail
  with_reducible refine (CI _).mono ?_
  rintro e w2 ⟨rfl, hb⟩
  replace cR := cs_below cR hb (by omega)
  replace fR := fs_below fR hb (by omega)
  replace HBa := HBa.trans (hb.mono (by omega))
  replace zs := Nat.lt_of_lt_of_le zs hb.size
  clear hb CI k0 k1
  go_upto_region 8 with fail
  refine opq (fun wx => Cs wx (w.heap.size + 1) 18 (fun _ => 0) ∧ Fs wx (w.heap.size + 1) 18 ∧ wx.cell? ⟨w2.heap.size, 0, none⟩ = some (.int .i64 c1) ∧ wx.cell? ⟨w2.heap.size, 1, none⟩ = some (.int .i64 c2) ∧ wx.cell? ⟨w2.heap.size + 1, 0, none⟩ = some (.int .i64 s1) ∧ wx.cell? ⟨w2.heap.size + 1, 1, none⟩ = some (.int .i64 s2) ∧ w2.heap.size + 1 < wx.heap.size ∧ Below w.heap.size w wx) ?_ ?_
  · exact ⟨kc, kf, kk, kk, kk, kk, by simp [World.setCell], kg⟩
  clear cR fR HBa
  generalize hq : w2.heap.size = q
  have zq0 : w.heap.size + 1 < q := by omega
  clear hq zs
  rintro wy ⟨cR, fR, a0, a1, a2, a3, zs, HBa⟩
  go_step
  refine wpList_plain rfl (fun K hK => ?_)
  go_big_op
  with_reducible refine (U _).mono ?_
  rintro e w3 ⟨rfl, hb⟩
  simp only []
  refine hK _ _ ?_
  clear hK K
  replace a0 : w3.cell? ⟨q, 0, none⟩ = some (.int .i64 c1) := (hb.cell (show q < wy.heap.size by omega)).trans a0
  replace a1 : w3.cell? ⟨q, 1, none⟩ = some (.int .i64 c2) := (hb.cell (show q < wy.heap.size by omega)).trans a1
  replace a2 : w3.cell? ⟨q + 1, 0, none⟩ = some (.int .i64 s1) := (hb.cell (show q + 1 < wy.heap.size by omega)).trans a2
  replace a3 : w3.cell? ⟨q + 1, 1, none⟩ = some (.int .i64 s2) := (hb.cell (show q + 1 < wy.heap.size by omega)).trans a3
  replace cR := cs_below cR hb (by omega)
  replace fR := fs_below fR hb (by omega)
  replace HBa := HBa.trans (hb.mono (by omega))
  replace zs := Nat.lt_of_lt_of_le zs hb.size
  clear hb U
  refine wpList_plain rfl (fun K hK => ?_)
  go_big_op
  refine hK _ _ ?_
  clear hK K
  refine store18 (.tmp 9) (.tmp 33) w3.heap.size unP (fun _ => 0) (cs_new rfl arr0) (fs_new rfl) rfl rfl rfl rfl ?_
  intro wa cU fU sX bX
  have hb := bX w3.heap.size w3 (Nat.le_refl _) (bal (b0 _) _)
  have zg : w3.heap.size < wa.heap.size := by rw [sX]; simp
  have zqg : q + 1 < w3.heap.size := zs
  replace a0 : wa.cell? ⟨q, 0, none⟩ = some (.int .i64 c1) := (hb.cell (show q < w3.heap.size by omega)).trans a0
  replace a1 : wa.cell? ⟨q, 1, none⟩ = some (.int .i64 c2) := (hb.cell (show q < w3.heap.size by omega)).trans a1
  replace a2 : wa.cell? ⟨q + 1, 0, none⟩ = some (.int .i64 s1) := (hb.cell (show q + 1 < w3.heap.size by omega)).trans a2
  replace a3 : wa.cell? ⟨q + 1, 1, none⟩ = some (.int .i64 s2) := (hb.cell (show q + 1 < w3.heap.size by omega)).trans a3
  replace cR := cs_below cR hb (by omega)
  replace fR := fs_below fR hb (by omega)
  replace HBa := HBa.trans (hb.mono (by omega))
  replace zs := Nat.lt_of_lt_of_le zs hb.size
  clear hb bX sX
  generalize w3.heap.size = g at *
  have cg : ∀ o, o < 18 → wa.cell? ⟨g, o, none⟩ = some (.int .i64 (unP o)) := cU
  have fg : ∀ o, o < 18 → wa.frozen? ⟨g, o, none⟩ = false := fU
  have y1 : q < wa.heap.size := by omega
  have y2 : (g = q) = False := eq_false (by omega)
  have y3 : (g = q + 1) = False := eq_false (by omega)
  have y4 : (q = g) = False := eq_false (by omega)
  have y5 : (q + 1 = g) = False := eq_false (by omega)
  go_wp2_with fail
  go_region_held3 (fun w' => w'.cell? ⟨q, 0, none⟩ = some (.int .i64 c1) ∧ w'.cell? ⟨q, 1, none⟩ = some (.int .i64 c2) ∧ w'.cell? ⟨q + 1, 0, none⟩ = some (.int .i64 s1) ∧ w'.cell? ⟨q + 1, 1, none⟩ = some (.int .i64 s2)) (simp (maxDischargeDepth := 8) [go_sem, kp, *])
    (fail)
  all_goals (try go_wp2_with fail)
  all_goals go_region_held3 (fun w' => w'.cell? ⟨q, 0, none⟩ = some (.int .i64 c1) ∧ w'.cell? ⟨q, 1, none⟩ = some (.int .i64 c2) ∧ w'.cell? ⟨q + 1, 0, none⟩ = some (.int .i64 s1) ∧ w'.cell? ⟨q + 1, 1, none⟩ = some (.int .i64 s2)) (simp (maxDischargeDepth := 8) [go_sem, kp, *])
    ((go_at_call 61; with_reducible refine (MI _).mono ?_; rintro e w' ⟨rfl, hb⟩; obtain ⟨l9, d9, rfl⟩ := toExt hb; clear hb))
  all_goals go_upto_region 12 with fail
  all_goals (refine opq (fun wx => Cs wx g 18 (tuN 1 c1 c2 s1 s2) ∧ Cs wx (w.heap.size + 1) 18 (fun _ => 0) ∧ Fs wx (w.heap.size + 1) 18 ∧ Below w.heap.size w wx) ⟨cs_eq (N := up (up (up (up (up (up (up (up (unP) 16 (c1)) 17 (c2)) 0 (c1)) 1 (c2)) 12 (-s1)) 13 (s2)) 4 (s1)) 5 (s2)) (kc) (by apply cases18 <;> rfl), kc, kf, kg⟩ ?_; clear cU fU cR fR HBa cg fg; rintro wv ⟨cU, cR, fR, HBa⟩)
  all_goals go_step
  all_goals (refine load18 (.tmp 9) _ _ cU rfl rfl rfl ?_; refine store18 (.tmp 4) (.tmp 61) (w.heap.size + 1) (tuN 1 c1 c2 s1 s2) (fun _ => 0) cR fR rfl rfl rfl rfl ?_; intro wx cX fX sX bX; have HBx := bX w.heap.size w (by omega) HBa; clear cR fR HBa bX fX sX)
  all_goals go_wp2
  all_goals (refine bodyPost_ret (res_mat2 (v := .int .i64 0) Try.results27 rfl rfl cX) rfl ?_; exact ⟨rfl, HBx⟩)

set_option maxRecDepth 100000 in
set_option maxHeartbeats 6400000 in
theorem ref2_turn_ok2 (n d : Int) (c1 c2 s1 s2 : Int) (CK : ∀ w : World, Calls Try.prog 59 #[.agg #[.int .i64 n, .int .i64 d]] w fun x w' => x = .returned (.int .i64 0) ∧ Below w.heap.size w w') (CI : ∀ w : World, Calls Try.prog 60 #[.agg #[.int .i64 n, .int .i64 d]] w fun x w' => x = .returned (.tuple #[.agg #[.int .i64 c1, .int .i64 c2], .agg #[.int .i64 s1, .int .i64 s2], .int .i64 0]) ∧ Below w.heap.size w w') (U : ∀ w : World, Calls Try.prog 12 #[] w fun x w' => x = .returned (.agg #[.int .i64 (unP 0), .int .i64 (unP 1), .int .i64 (unP 2), .int .i64 (unP 3), .int .i64 (unP 4), .int .i64 (unP 5), .int .i64 (unP 6), .int .i64 (unP 7), .int .i64 (unP 8), .int .i64 (unP 9), .int .i64 (unP 10), .int .i64 (unP 11), .int .i64 (unP 12), .int .i64 (unP 13), .int .i64 (unP 14), .int .i64 (unP 15), .int .i64 (unP 16), .int .i64 (unP 17)]) ∧ Below w.heap.size w w') (MI : ∀ w : World, Calls Try.prog 61 #[.agg #[.int .i64 s1, .int .i64 s2]] w fun x w' => x = .returned (.agg #[.int .i64 (-s1), .int .i64 s2]) ∧ Below w.heap.size w w') (w : World) :
    Calls Try.prog 27 #[.int .i64 2, .agg #[.int .i64 n, .int .i64 d]] w fun x w' => x = .returned (.tuple #[.agg #[.int .i64 ((tuN 2 c1 c2 s1 s2) 0), .int .i64 ((tuN 2 c1 c2 s1 s2) 1), .int .i64 ((tuN 2 c1 c2 s1 s2) 2), .int .i64 ((tuN 2 c1 c2 s1 s2) 3), .int .i64 ((tuN 2 c1 c2 s1 s2) 4), .int .i64 ((tuN 2 c1 c2 s1 s2) 5), .int .i64 ((tuN 2 c1 c2 s1 s2) 6), .int .i64 ((tuN 2 c1 c2 s1 s2) 7), .int .i64 ((tuN 2 c1 c2 s1 s2) 8), .int .i64 ((tuN 2 c1 c2 s1 s2) 9), .int .i64 ((tuN 2 c1 c2 s1 s2) 10), .int .i64 ((tuN 2 c1 c2 s1 s2) 11), .int .i64 ((tuN 2 c1 c2 s1 s2) 12), .int .i64 ((tuN 2 c1 c2 s1 s2) 13), .int .i64 ((tuN 2 c1 c2 s1 s2) 14), .int .i64 ((tuN 2 c1 c2 s1 s2) 15), .int .i64 ((tuN 2 c1 c2 s1 s2) 16), .int .i64 ((tuN 2 c1 c2 s1 s2) 17)], .int .i64 0]) ∧ Below w.heap.size w w' := by
  have xR := xRul
  have dz1 := dzA
  have dz2 := dzB
  go_enter Try.func27, Try.ntmps27
  go_upto_region 1 with fail
  refine opq (fun wx => wx.cell? ⟨w.heap.size, 0, none⟩ = some (.int .i64 n) ∧ wx.cell? ⟨w.heap.size, 1, none⟩ = some (.int .i64 d) ∧ Cs wx (w.heap.size + 1) 18 (fun _ => 0) ∧ Fs wx (w.heap.size + 1) 18 ∧ w.heap.size + 1 < wx.heap.size ∧ Below w.heap.size w wx) ?_ ?_
  · exact ⟨kk, kk, cs_new (by simp) arr0, fs_new (by simp), by simp, kb⟩
  rintro wz ⟨k0, k1, cR, fR, zs, HBa⟩
  go_wp2_with fail
  with_reducible refine (CK _).mono ?_
  rintro e w1 ⟨rfl, hb⟩
  replace k0 : w1.cell? ⟨w.heap.size, 0, none⟩ = some (.int .i64 n) := (hb.cell (show w.heap.size < wz.heap.size by omega)).trans k0
  replace k1 : w1.cell? ⟨w.heap.size, 1, none⟩ = some (.int .i64 d) := (hb.cell (show w.heap.size < wz.heap.size by omega)).trans k1
  replace cR := cs_below cR hb (by omega)
  replace fR := fs_below fR hb (by omega)
  replace HBa := HBa.trans (hb.mono (by omega))
  replace zs := Nat.lt_of_lt_of_le zs hb.size
  clear hb CK
  go_wp2_with fail
  with_reducible refine (CI _).mono ?_
  rintro e w2 ⟨rfl, hb⟩
  replace cR := cs_below cR hb (by omega)
  replace fR := fs_below fR hb (by omega)
  replace HBa := HBa.trans (hb.mono (by omega))
  replace zs := Nat.lt_of_lt_of_le zs hb.size
  clear hb CI k0 k1
  go_upto_region 8 with fail
  refine opq (fun wx => Cs wx (w.heap.size + 1) 18 (fun _ => 0) ∧ Fs wx (w.heap.size + 1) 18 ∧ wx.cell? ⟨w2.heap.size, 0, none⟩ = some (.int .i64 c1) ∧ wx.cell? ⟨w2.heap.size, 1, none⟩ = some (.int .i64 c2) ∧ wx.cell? ⟨w2.heap.size + 1, 0, none⟩ = some (.int .i64 s1) ∧ wx.cell? ⟨w2.heap.size + 1, 1, none⟩ = some (.int .i64 s2) ∧ w2.heap.size + 1 < wx.heap.size ∧ Below w.heap.size w wx) ?_ ?_
  · exact ⟨kc, kf, kk, kk, kk, kk, by simp [World.setCell], kg⟩
  clear cR fR HBa
  generalize hq : w2.heap.size = q
  have zq0 : w.heap.size + 1 < q := by omega
  clear hq zs
  rintro wy ⟨cR, fR, a0, a1, a2, a3, zs, HBa⟩
  go_step
  refine wpList_plain rfl (fun K hK => ?_)
  go_big_op
  with_reducible refine (U _).mono ?_
  rintro e w3 ⟨rfl, hb⟩
  simp only []
  refine hK _ _ ?_
  clear hK K
  replace a0 : w3.cell? ⟨q, 0, none⟩ = some (.int .i64 c1) := (hb.cell (show q < wy.heap.size by omega)).trans a0
  replace a1 : w3.cell? ⟨q, 1, none⟩ = some (.int .i64 c2) := (hb.cell (show q < wy.heap.size by omega)).trans a1
  replace a2 : w3.cell? ⟨q + 1, 0, none⟩ = some (.int .i64 s1) := (hb.cell (show q + 1 < wy.heap.size by omega)).trans a2
  replace a3 : w3.cell? ⟨q + 1, 1, none⟩ = some (.int .i64 s2) := (hb.cell (show q + 1 < wy.heap.size by omega)).trans a3
  replace cR := cs_below cR hb (by omega)
  replace fR := fs_below fR hb (by omega)
  replace HBa := HBa.trans (hb.mono (by omega))
  replace zs := Nat.lt_of_lt_of_le zs hb.size
  clear hb U
  refine wpList_plain rfl (fun K hK => ?_)
  go_big_op
  refine hK _ _ ?_
  clear hK K
  refine store18 (.tmp 9) (.tmp 33) w3.heap.size unP (fun _ => 0) (cs_new rfl arr0) (fs_new rfl) rfl rfl rfl rfl ?_
  intro wa cU fU sX bX
  have hb := bX w3.heap.size w3 (Nat.le_refl _) (bal (b0 _) _)
  have zg : w3.heap.size < wa.heap.size := by rw [sX]; simp
  have zqg : q + 1 < w3.heap.size := zs
  replace a0 : wa.cell? ⟨q, 0, none⟩ = some (.int .i64 c1) := (hb.cell (show q < w3.heap.size by omega)).trans a0
  replace a1 : wa.cell? ⟨q, 1, none⟩ = some (.int .i64 c2) := (hb.cell (show q < w3.heap.size by omega)).trans a1
  replace a2 : wa.cell? ⟨q + 1, 0, none⟩ = some (.int .i64 s1) := (hb.cell (show q + 1 < w3.heap.size by omega)).trans a2
  replace a3 : wa.cell? ⟨q + 1, 1, none⟩ = some (.int .i64 s2) := (hb.cell (show q + 1 < w3.heap.size by omega)).trans a3
  replace cR := cs_below cR hb (by omega)
  replace fR := fs_below fR hb (by omega)
  replace HBa := HBa.trans (hb.mono (by omega))
  replace zs := Nat.lt_of_lt_of_le zs hb.size
  clear hb bX sX
  generalize w3.heap.size = g at *
  have cg : ∀ o, o < 18 → wa.cell? ⟨g, o, none⟩ = some (.int .i64 (unP o)) := cU
  have fg : ∀ o, o < 18 → wa.frozen? ⟨g, o, none⟩ = false := fU
  have y1 : q < wa.heap.size := by omega
  have y2 : (g = q) = False := eq_false (by omega)
  have y3 : (g = q + 1) = False := eq_false (by omega)
  have y4 : (q = g) = False := eq_false (by omega)
  have y5 : (q + 1 = g) = False := eq_false (by omega)
  go_wp2_with fail
  go_region_held3 (fun w' => w'.cell? ⟨q, 0, none⟩ = some (.int .i64 c1) ∧ w'.cell? ⟨q, 1, none⟩ = some (.int .i64 c2) ∧ w'.cell? ⟨q + 1, 0, none⟩ = some (.int .i64 s1) ∧ w'.cell? ⟨q + 1, 1, none⟩ = some (.int .i64 s2)) (simp (maxDischargeDepth := 8) [go_sem, kp, *])
    (fail)
  all_goals (try go_wp2_with fail)
  all_goals go_region_held3 (fun w' => w'.cell? ⟨q, 0, none⟩ = some (.int .i64 c1) ∧ w'.cell? ⟨q, 1, none⟩ = some (.int .i64 c2) ∧ w'.cell? ⟨q + 1, 0, none⟩ = some (.int .i64 s1) ∧ w'.cell? ⟨q + 1, 1, none⟩ = some (.int .i64 s2)) (simp (maxDischargeDepth := 8) [go_sem, kp, *])
    ((go_at_call 61; with_reducible refine (MI _).mono ?_; rintro e w' ⟨rfl, hb⟩; obtain ⟨l9, d9, rfl⟩ := toExt hb; clear hb))
  all_goals go_upto_region 12 with fail
  all_goals (refine opq (fun wx => Cs wx g 18 (tuN 2 c1 c2 s1 s2) ∧ Cs wx (w.heap.size + 1) 18 (fun _ => 0) ∧ Fs wx (w.heap.size + 1) 18 ∧ Below w.heap.size w wx) ⟨cs_eq (N := up (up (up (up (up (up (up (up (unP) 0 (c1)) 1 (c2)) 8 (c1)) 9 (c2)) 2 (-s1)) 3 (s2)) 6 (s1)) 7 (s2)) (kc) (by apply cases18 <;> rfl), kc, kf, kg⟩ ?_; clear cU fU cR fR HBa cg fg; rintro wv ⟨cU, cR, fR, HBa⟩)
  all_goals go_step
  all_goals (refine load18 (.tmp 9) _ _ cU rfl rfl rfl ?_; refine store18 (.tmp 4) (.tmp 61) (w.heap.size + 1) (tuN 2 c1 c2 s1 s2) (fun _ => 0) cR fR rfl rfl rfl rfl ?_; intro wx cX fX sX bX; have HBx := bX w.heap.size w (by omega) HBa; clear cR fR HBa bX fX sX)
  all_goals go_wp2
  all_goals (refine bodyPost_ret (res_mat2 (v := .int .i64 0) Try.results27 rfl rfl cX) rfl ?_; exact ⟨rfl, HBx⟩)

end Go.Proofs.Ytlijkebdaalldaa
namespace Go.Proofs.Ytlijkebdaalldaa
open Go.RowKit
set_option linter.unusedVariables false
set_option linter.unusedSimpArgs false

set_option maxRecDepth 100000 in
set_option maxHeartbeats 3200000 in
theorem ref2_pair_bad (n d q1 q2 q3 l1 l2 l3 h1 h2 h3 E : Int)
    (O1 : ∀ w : World, Calls Try.prog 8 #[.int .i64 1] w fun x w' => x = .returned (.agg #[.int .i64 1, .int .i64 1]) ∧ Below w.heap.size w w')
    (AQ : ∀ w : World, Calls Try.prog 77 #[.agg #[.int .i64 n, .int .i64 d], .agg #[.int .i64 n, .int .i64 d]] w fun x w' => x = .returned (.tuple #[.agg #[.int .i64 q1, .int .i64 q2], .int .i64 q3]) ∧ Below w.heap.size w w') (AL : ∀ w : World, Calls Try.prog 81 #[.agg #[.int .i64 1, .int .i64 1], .agg #[.int .i64 q1, .int .i64 q2]] w fun x w' => x = .returned (.tuple #[.agg #[.int .i64 l1, .int .i64 l2], .int .i64 l3]) ∧ Below w.heap.size w w') (AH : ∀ w : World, Calls Try.prog 78 #[.agg #[.int .i64 1, .int .i64 1], .agg #[.int .i64 q1, .int .i64 q2]] w fun x w' => x = .returned (.tuple #[.agg #[.int .i64 h1, .int .i64 h2], .int .i64 h3]) ∧ Below w.heap.size w w')
    (F1 : ∀ w : World, Calls Try.prog 56 #[.int .i64 q3, .int .i64 l3, .int .i64 h3] w fun x w' => x = .returned (.int .i64 E) ∧ w' = w)
    (hE : (E == 0) = false) (w : World) :
    Calls Try.prog 60 #[.agg #[.int .i64 n, .int .i64 d]] w fun x w' => x = .returned (.tuple #[.agg #[.int .i64 0, .int .i64 0], .agg #[.int .i64 0, .int .i64 0], .int .i64 E]) ∧ Below w.heap.size w w' := by
  have xR := xRul
  have dz1 := dzA
  have dz2 := dzB
  go_enter Try.func60, Try.ntmps60
  go_wp2_with fail
  with_reducible refine (O1 _).mono ?_
  rintro e w1 ⟨rfl, hb⟩
  have HB1 : Below w.heap.size w w1 := by
    refine Below.trans ?_ (hb.mono ?_)
    · exact kb
    · first | omega | (simp <;> omega)
  have zs1 : w.heap.size + 3 < w1.heap.size + 1 := by have := hb.size; (try simp at this); omega
  have ka0 : w1.cell? ⟨w.heap.size, 0, none⟩ = some (.int .i64 n) := bce hb
  have ka1 : w1.cell? ⟨w.heap.size, 1, none⟩ = some (.int .i64 d) := bce hb
  have kb0 : w1.cell? ⟨w.heap.size + 1, 0, none⟩ = some (.int .i64 0) := bce hb
  have kb1 : w1.cell? ⟨w.heap.size + 1, 1, none⟩ = some (.int .i64 0) := bce hb
  have kbf0 : w1.frozen? ⟨w.heap.size + 1, 0, none⟩ = false := bfz hb
  have kbf1 : w1.frozen? ⟨w.heap.size + 1, 1, none⟩ = false := bfz hb
  have kc0 : w1.cell? ⟨w.heap.size + 1 + 1, 0, none⟩ = some (.int .i64 0) := bce hb
  have kc1 : w1.cell? ⟨w.heap.size + 1 + 1, 1, none⟩ = some (.int .i64 0) := bce hb
  have kcf0 : w1.frozen? ⟨w.heap.size + 1 + 1, 0, none⟩ = false := bfz hb
  have kcf1 : w1.frozen? ⟨w.heap.size + 1 + 1, 1, none⟩ = false := bfz hb
  clear hb
  have zy0_1 : w.heap.size < w1.heap.size := by omega
  have zy1_1 : w.heap.size + 1 < w1.heap.size := by omega
  have zy2_1 : w.heap.size + 1 + 1 < w1.heap.size := by omega
  go_wp2_with fail
  with_reducible refine (AQ _).mono ?_
  rintro e w2 ⟨rfl, hb⟩
  have HB2 : Below w.heap.size w w2 := by
    refine Below.trans ?_ (hb.mono ?_)
    · exact kb
    · first | omega | (simp <;> omega)
  have zs2 : w1.heap.size + 1 < w2.heap.size + 1 := by have := hb.size; (try simp at this); omega
  replace ka0 : w2.cell? ⟨w.heap.size, 0, none⟩ = some (.int .i64 n) := bce hb
  replace ka1 : w2.cell? ⟨w.heap.size, 1, none⟩ = some (.int .i64 d) := bce hb
  replace kb0 : w2.cell? ⟨w.heap.size + 1, 0, none⟩ = some (.int .i64 0) := bce hb
  replace kb1 : w2.cell? ⟨w.heap.size + 1, 1, none⟩ = some (.int .i64 0) := bce hb
  replace kbf0 : w2.frozen? ⟨w.heap.size + 1, 0, none⟩ = false := bfz hb
  replace kbf1 : w2.frozen? ⟨w.heap.size + 1, 1, none⟩ = false := bfz hb
  replace kc0 : w2.cell? ⟨w.heap.size + 1 + 1, 0, none⟩ = some (.int .i64 0) := bce hb
  replace kc1 : w2.cell? ⟨w.heap.size + 1 + 1, 1, none⟩ = some (.int .i64 0) := bce hb
  replace kcf0 : w2.frozen? ⟨w.heap.size + 1 + 1, 0, none⟩ = false := bfz hb
  replace kcf1 : w2.frozen? ⟨w.heap.size + 1 + 1, 1, none⟩ = false := bfz hb
  have o0 : w2.cell? ⟨w1.heap.size, 0, none⟩ = some (.int .i64 1) := bce hb
  have o1 : w2.cell? ⟨w1.heap.size, 1, none⟩ = some (.int .i64 1) := bce hb
  clear hb HB1
  have zy0_2 : w.heap.size < w2.heap.size := by omega
  have zy1_2 : w.heap.size + 1 < w2.heap.size := by omega
  have zy2_2 : w.heap.size + 1 + 1 < w2.heap.size := by omega
  have zz_w1_2 : w1.heap.size < w2.heap.size := by omega
  go_wp2_with fail
  with_reducible refine (AL _).mono ?_
  rintro e w3 ⟨rfl, hb⟩
  have HB3 : Below w.heap.size w w3 := by
    refine Below.trans ?_ (hb.mono ?_)
    · exact kb
    · first | omega | (simp <;> omega)
  have zs3 : w2.heap.size + 1 < w3.heap.size + 1 := by have := hb.size; (try simp at this); omega
  replace ka0 : w3.cell? ⟨w.heap.size, 0, none⟩ = some (.int .i64 n) := bce hb
  replace ka1 : w3.cell? ⟨w.heap.size, 1, none⟩ = some (.int .i64 d) := bce hb
  replace kb0 : w3.cell? ⟨w.heap.size + 1, 0, none⟩ = some (.int .i64 0) := bce hb
  replace kb1 : w3.cell? ⟨w.heap.size + 1, 1, none⟩ = some (.int .i64 0) := bce hb
  replace kbf0 : w3.frozen? ⟨w.heap.size + 1, 0, none⟩ = false := bfz hb
  replace kbf1 : w3.frozen? ⟨w.heap.size + 1, 1, none⟩ = false := bfz hb
  replace kc0 : w3.cell? ⟨w.heap.size + 1 + 1, 0, none⟩ = some (.int .i64 0) := bce hb
  replace kc1 : w3.cell? ⟨w.heap.size + 1 + 1, 1, none⟩ = some (.int .i64 0) := bce hb
  replace kcf0 : w3.frozen? ⟨w.heap.size + 1 + 1, 0, none⟩ = false := bfz hb
  replace kcf1 : w3.frozen? ⟨w.heap.size + 1 + 1, 1, none⟩ = false := bfz hb
  replace o0 : w3.cell? ⟨w1.heap.size, 0, none⟩ = some (.int .i64 1) := bce hb
  replace o1 : w3.cell? ⟨w1.heap.size, 1, none⟩ = some (.int .i64 1) := bce hb
  have r2_0 : w3.cell? ⟨w2.heap.size, 0, none⟩ = some (.int .i64 q1) := bce hb
  have r2_1 : w3.cell? ⟨w2.heap.size, 1, none⟩ = some (.int .i64 q2) := bce hb
  clear hb HB2
  have zy0_3 : w.heap.size < w3.heap.size := by omega
  have zy1_3 : w.heap.size + 1 < w3.heap.size := by omega
  have zy2_3 : w.heap.size + 1 + 1 < w3.heap.size := by omega
  have zz_w1_3 : w1.heap.size < w3.heap.size := by omega
  have zz_w2_3 : w2.heap.size < w3.heap.size := by omega
  go_wp2_with fail
  with_reducible refine (AH _).mono ?_
  rintro e w4 ⟨rfl, hb⟩
  have HB4 : Below w.heap.size w w4 := by
    refine Below.trans ?_ (hb.mono ?_)
    · exact kb
    · first | omega | (simp <;> omega)
  have zs4 : w3.heap.size + 1 < w4.heap.size + 1 := by have := hb.size; (try simp at this); omega
  replace ka0 : w4.cell? ⟨w.heap.size, 0, none⟩ = some (.int .i64 n) := bce hb
  replace ka1 : w4.cell? ⟨w.heap.size, 1, none⟩ = some (.int .i64 d) := bce hb
  replace kb0 : w4.cell? ⟨w.heap.size + 1, 0, none⟩ = some (.int .i64 0) := bce hb
  replace kb1 : w4.cell? ⟨w.heap.size + 1, 1, none⟩ = some (.int .i64 0) := bce hb
  replace kbf0 : w4.frozen? ⟨w.heap.size + 1, 0, none⟩ = false := bfz hb
  replace kbf1 : w4.frozen? ⟨w.heap.size + 1, 1, none⟩ = false := bfz hb
  replace kc0 : w4.cell? ⟨w.heap.size + 1 + 1, 0, none⟩ = some (.int .i64 0) := bce hb
  replace kc1 : w4.cell? ⟨w.heap.size + 1 + 1, 1, none⟩ = some (.int .i64 0) := bce hb
  replace kcf0 : w4.frozen? ⟨w.heap.size + 1 + 1, 0, none⟩ = false := bfz hb
  replace kcf1 : w4.frozen? ⟨w.heap.size + 1 + 1, 1, none⟩ = false := bfz hb
  replace o0 : w4.cell? ⟨w1.heap.size, 0, none⟩ = some (.int .i64 1) := bce hb
  replace o1 : w4.cell? ⟨w1.heap.size, 1, none⟩ = some (.int .i64 1) := bce hb
  replace r2_0 : w4.cell? ⟨w2.heap.size, 0, none⟩ = some (.int .i64 q1) := bce hb
  replace r2_1 : w4.cell? ⟨w2.heap.size, 1, none⟩ = some (.int .i64 q2) := bce hb
  have r3_0 : w4.cell? ⟨w3.heap.size, 0, none⟩ = some (.int .i64 l1) := bce hb
  have r3_1 : w4.cell? ⟨w3.heap.size, 1, none⟩ = some (.int .i64 l2) := bce hb
  clear hb HB3
  have zy0_4 : w.heap.size < w4.heap.size := by omega
  have zy1_4 : w.heap.size + 1 < w4.heap.size := by omega
  have zy2_4 : w.heap.size + 1 + 1 < w4.heap.size := by omega
  have zz_w1_4 : w1.heap.size < w4.heap.size := by omega
  have zz_w2_4 : w2.heap.size < w4.heap.size := by omega
  have zz_w3_4 : w3.heap.size < w4.heap.size := by omega
  clear O1 AQ AL AH
  go_wp2_with fail
  with_reducible refine (F1 _).mono ?_
  rintro e w9 ⟨rfl, rfl⟩
  go_wp2_with fail
  with_reducible refine (F1 _).mono ?_
  rintro e w9 ⟨rfl, rfl⟩
  go_wp2
  refine bodyPost_ret (by simp [results, Try.results60, go_sem, ext_cell, kp, *]; try rfl) rfl ?_
  exact ⟨rfl, kb⟩

set_option maxRecDepth 100000 in
set_option maxHeartbeats 6400000 in
theorem ref2_pair_ok (n d q1 q2 q3 l1 l2 l3 h1 h2 h3 c1 c2 c3 t1 t2 t3 s1 s2 s3 E G : Int)
    (O1 : ∀ w : World, Calls Try.prog 8 #[.int .i64 1] w fun x w' => x = .returned (.agg #[.int .i64 1, .int .i64 1]) ∧ Below w.heap.size w w')
    (AQ : ∀ w : World, Calls Try.prog 77 #[.agg #[.int .i64 n, .int .i64 d], .agg #[.int .i64 n, .int .i64 d]] w fun x w' => x = .returned (.tuple #[.agg #[.int .i64 q1, .int .i64 q2], .int .i64 q3]) ∧ Below w.heap.size w w') (AL : ∀ w : World, Calls Try.prog 81 #[.agg #[.int .i64 1, .int .i64 1], .agg #[.int .i64 q1, .int .i64 q2]] w fun x w' => x = .returned (.tuple #[.agg #[.int .i64 l1, .int .i64 l2], .int .i64 l3]) ∧ Below w.heap.size w w') (AH : ∀ w : World, Calls Try.prog 78 #[.agg #[.int .i64 1, .int .i64 1], .agg #[.int .i64 q1, .int .i64 q2]] w fun x w' => x = .returned (.tuple #[.agg #[.int .i64 h1, .int .i64 h2], .int .i64 h3]) ∧ Below w.heap.size w w')
    (F1 : ∀ w : World, Calls Try.prog 56 #[.int .i64 q3, .int .i64 l3, .int .i64 h3] w fun x w' => x = .returned (.int .i64 E) ∧ w' = w)
    (AC : ∀ w : World, Calls Try.prog 82 #[.agg #[.int .i64 l1, .int .i64 l2], .agg #[.int .i64 h1, .int .i64 h2]] w fun x w' => x = .returned (.tuple #[.agg #[.int .i64 c1, .int .i64 c2], .int .i64 c3]) ∧ Below w.heap.size w w') (O2 : ∀ w : World, Calls Try.prog 8 #[.int .i64 2] w fun x w' => x = .returned (.agg #[.int .i64 2, .int .i64 1]) ∧ Below w.heap.size w w') (AT2 : ∀ w : World, Calls Try.prog 77 #[.agg #[.int .i64 n, .int .i64 d], .agg #[.int .i64 2, .int .i64 1]] w fun x w' => x = .returned (.tuple #[.agg #[.int .i64 t1, .int .i64 t2], .int .i64 t3]) ∧ Below w.heap.size w w') (AS : ∀ w : World, Calls Try.prog 82 #[.agg #[.int .i64 t1, .int .i64 t2], .agg #[.int .i64 h1, .int .i64 h2]] w fun x w' => x = .returned (.tuple #[.agg #[.int .i64 s1, .int .i64 s2], .int .i64 s3]) ∧ Below w.heap.size w w')
    (F2 : ∀ w : World, Calls Try.prog 56 #[.int .i64 c3, .int .i64 t3, .int .i64 s3] w fun x w' => x = .returned (.int .i64 G) ∧ w' = w)
    (hE : (E == 0) = true) (w : World) :
    Calls Try.prog 60 #[.agg #[.int .i64 n, .int .i64 d]] w fun x w' => x = .returned (.tuple #[.agg #[.int .i64 c1, .int .i64 c2], .agg #[.int .i64 s1, .int .i64 s2], .int .i64 G]) ∧ Below w.heap.size w w' := by
  have xR := xRul
  have dz1 := dzA
  have dz2 := dzB
  go_enter Try.func60, Try.ntmps60
  go_wp2_with fail
  with_reducible refine (O1 _).mono ?_
  rintro e w1 ⟨rfl, hb⟩
  have HB1 : Below w.heap.size w w1 := by
    refine Below.trans ?_ (hb.mono ?_)
    · exact kb
    · first | omega | (simp <;> omega)
  have zs1 : w.heap.size + 3 < w1.heap.size + 1 := by have := hb.size; (try simp at this); omega
  have ka0 : w1.cell? ⟨w.heap.size, 0, none⟩ = some (.int .i64 n) := bce hb
  have ka1 : w1.cell? ⟨w.heap.size, 1, none⟩ = some (.int .i64 d) := bce hb
  have kb0 : w1.cell? ⟨w.heap.size + 1, 0, none⟩ = some (.int .i64 0) := bce hb
  have kb1 : w1.cell? ⟨w.heap.size + 1, 1, none⟩ = some (.int .i64 0) := bce hb
  have kbf0 : w1.frozen? ⟨w.heap.size + 1, 0, none⟩ = false := bfz hb
  have kbf1 : w1.frozen? ⟨w.heap.size + 1, 1, none⟩ = false := bfz hb
  have kc0 : w1.cell? ⟨w.heap.size + 1 + 1, 0, none⟩ = some (.int .i64 0) := bce hb
  have kc1 : w1.cell? ⟨w.heap.size + 1 + 1, 1, none⟩ = some (.int .i64 0) := bce hb
  have kcf0 : w1.frozen? ⟨w.heap.size + 1 + 1, 0, none⟩ = false := bfz hb
  have kcf1 : w1.frozen? ⟨w.heap.size + 1 + 1, 1, none⟩ = false := bfz hb
  clear hb
  have zy0_1 : w.heap.size < w1.heap.size := by omega
  have zy1_1 : w.heap.size + 1 < w1.heap.size := by omega
  have zy2_1 : w.heap.size + 1 + 1 < w1.heap.size := by omega
  go_wp2_with fail
  with_reducible refine (AQ _).mono ?_
  rintro e w2 ⟨rfl, hb⟩
  have HB2 : Below w.heap.size w w2 := by
    refine Below.trans ?_ (hb.mono ?_)
    · exact kb
    · first | omega | (simp <;> omega)
  have zs2 : w1.heap.size + 1 < w2.heap.size + 1 := by have := hb.size; (try simp at this); omega
  replace ka0 : w2.cell? ⟨w.heap.size, 0, none⟩ = some (.int .i64 n) := bce hb
  replace ka1 : w2.cell? ⟨w.heap.size, 1, none⟩ = some (.int .i64 d) := bce hb
  replace kb0 : w2.cell? ⟨w.heap.size + 1, 0, none⟩ = some (.int .i64 0) := bce hb
  replace kb1 : w2.cell? ⟨w.heap.size + 1, 1, none⟩ = some (.int .i64 0) := bce hb
  replace kbf0 : w2.frozen? ⟨w.heap.size + 1, 0, none⟩ = false := bfz hb
  replace kbf1 : w2.frozen? ⟨w.heap.size + 1, 1, none⟩ = false := bfz hb
  replace kc0 : w2.cell? ⟨w.heap.size + 1 + 1, 0, none⟩ = some (.int .i64 0) := bce hb
  replace kc1 : w2.cell? ⟨w.heap.size + 1 + 1, 1, none⟩ = some (.int .i64 0) := bce hb
  replace kcf0 : w2.frozen? ⟨w.heap.size + 1 + 1, 0, none⟩ = false := bfz hb
  replace kcf1 : w2.frozen? ⟨w.heap.size + 1 + 1, 1, none⟩ = false := bfz hb
  have o0 : w2.cell? ⟨w1.heap.size, 0, none⟩ = some (.int .i64 1) := bce hb
  have o1 : w2.cell? ⟨w1.heap.size, 1, none⟩ = some (.int .i64 1) := bce hb
  clear hb HB1
  have zy0_2 : w.heap.size < w2.heap.size := by omega
  have zy1_2 : w.heap.size + 1 < w2.heap.size := by omega
  have zy2_2 : w.heap.size + 1 + 1 < w2.heap.size := by omega
  have zz_w1_2 : w1.heap.size < w2.heap.size := by omega
  go_wp2_with fail
  with_reducible refine (AL _).mono ?_
  rintro e w3 ⟨rfl, hb⟩
  have HB3 : Below w.heap.size w w3 := by
    refine Below.trans ?_ (hb.mono ?_)
    · exact kb
    · first | omega | (simp <;> omega)
  have zs3 : w2.heap.size + 1 < w3.heap.size + 1 := by have := hb.size; (try simp at this); omega
  replace ka0 : w3.cell? ⟨w.heap.size, 0, none⟩ = some (.int .i64 n) := bce hb
  replace ka1 : w3.cell? ⟨w.heap.size, 1, none⟩ = some (.int .i64 d) := bce hb
  replace kb0 : w3.cell? ⟨w.heap.size + 1, 0, none⟩ = some (.int .i64 0) := bce hb
  replace kb1 : w3.cell? ⟨w.heap.size + 1, 1, none⟩ = some (.int .i64 0) := bce hb
  replace kbf0 : w3.frozen? ⟨w.heap.size + 1, 0, none⟩ = false := bfz hb
  replace kbf1 : w3.frozen? ⟨w.heap.size + 1, 1, none⟩ = false := bfz hb
  replace kc0 : w3.cell? ⟨w.heap.size + 1 + 1, 0, none⟩ = some (.int .i64 0) := bce hb
  replace kc1 : w3.cell? ⟨w.heap.size + 1 + 1, 1, none⟩ = some (.int .i64 0) := bce hb
  replace kcf0 : w3.frozen? ⟨w.heap.size + 1 + 1, 0, none⟩ = false := bfz hb
  replace kcf1 : w3.frozen? ⟨w.heap.size + 1 + 1, 1, none⟩ = false := bfz hb
  replace o0 : w3.cell? ⟨w1.heap.size, 0, none⟩ = some (.int .i64 1) := bce hb
  replace o1 : w3.cell? ⟨w1.heap.size, 1, none⟩ = some (.int .i64 1) := bce hb
  have r2_0 : w3.cell? ⟨w2.heap.size, 0, none⟩ = some (.int .i64 q1) := bce hb
  have r2_1 : w3.cell? ⟨w2.heap.size, 1, none⟩ = some (.int .i64 q2) := bce hb
  clear hb HB2
  have zy0_3 : w.heap.size < w3.heap.size := by omega
  have zy1_3 : w.heap.size + 1 < w3.heap.size := by omega
  have zy2_3 : w.heap.size + 1 + 1 < w3.heap.size := by omega
  have zz_w1_3 : w1.heap.size < w3.heap.size := by omega
  have zz_w2_3 : w2.heap.size < w3.heap.size := by omega
  go_wp2_with fail
  with_reducible refine (AH _).mono ?_
  rintro e w4 ⟨rfl, hb⟩
  have HB4 : Below w.heap.size w w4 := by
    refine Below.trans ?_ (hb.mono ?_)
    · exact kb
    · first | omega | (simp <;> omega)
  have zs4 : w3.heap.size + 1 < w4.heap.size + 1 := by have := hb.size; (try simp at this); omega
  replace ka0 : w4.cell? ⟨w.heap.size, 0, none⟩ = some (.int .i64 n) := bce hb
  replace ka1 : w4.cell? ⟨w.heap.size, 1, none⟩ = some (.int .i64 d) := bce hb
  replace kb0 : w4.cell? ⟨w.heap.size + 1, 0, none⟩ = some (.int .i64 0) := bce hb
  replace kb1 : w4.cell? ⟨w.heap.size + 1, 1, none⟩ = some (.int .i64 0) := bce hb
  replace kbf0 : w4.frozen? ⟨w.heap.size + 1, 0, none⟩ = false := bfz hb
  replace kbf1 : w4.frozen? ⟨w.heap.size + 1, 1, none⟩ = false := bfz hb
  replace kc0 : w4.cell? ⟨w.heap.size + 1 + 1, 0, none⟩ = some (.int .i64 0) := bce hb
  replace kc1 : w4.cell? ⟨w.heap.size + 1 + 1, 1, none⟩ = some (.int .i64 0) := bce hb
  replace kcf0 : w4.frozen? ⟨w.heap.size + 1 + 1, 0, none⟩ = false := bfz hb
  replace kcf1 : w4.frozen? ⟨w.heap.size + 1 + 1, 1, none⟩ = false := bfz hb
  replace o0 : w4.cell? ⟨w1.heap.size, 0, none⟩ = some (.int .i64 1) := bce hb
  replace o1 : w4.cell? ⟨w1.heap.size, 1, none⟩ = some (.int .i64 1) := bce hb
  replace r2_0 : w4.cell? ⟨w2.heap.size, 0, none⟩ = some (.int .i64 q1) := bce hb
  replace r2_1 : w4.cell? ⟨w2.heap.size, 1, none⟩ = some (.int .i64 q2) := bce hb
  have r3_0 : w4.cell? ⟨w3.heap.size, 0, none⟩ = some (.int .i64 l1) := bce hb
  have r3_1 : w4.cell? ⟨w3.heap.size, 1, none⟩ = some (.int .i64 l2) := bce hb
  clear hb HB3
  have zy0_4 : w.heap.size < w4.heap.size := by omega
  have zy1_4 : w.heap.size + 1 < w4.heap.size := by omega
  have zy2_4 : w.heap.size + 1 + 1 < w4.heap.size := by omega
  have zz_w1_4 : w1.heap.size < w4.heap.size := by omega
  have zz_w2_4 : w2.heap.size < w4.heap.size := by omega
  have zz_w3_4 : w3.heap.size < w4.heap.size := by omega
  clear O1 AQ AL AH
  go_wp2_with fail
  with_reducible refine (F1 _).mono ?_
  rintro e w9 ⟨rfl, rfl⟩
  go_wp2_with fail
  with_reducible refine (AC _).mono ?_
  rintro e w5 ⟨rfl, hb⟩
  have HB5 : Below w.heap.size w w5 := by
    refine Below.trans ?_ (hb.mono ?_)
    · exact kb
    · first | omega | (simp <;> omega)
  have zs5 : w4.heap.size + 1 < w5.heap.size + 1 := by have := hb.size; (try simp at this); omega
  replace ka0 : w5.cell? ⟨w.heap.size, 0, none⟩ = some (.int .i64 n) := bce hb
  replace ka1 : w5.cell? ⟨w.heap.size, 1, none⟩ = some (.int .i64 d) := bce hb
  replace kb0 : w5.cell? ⟨w.heap.size + 1, 0, none⟩ = some (.int .i64 0) := bce hb
  replace kb1 : w5.cell? ⟨w.heap.size + 1, 1, none⟩ = some (.int .i64 0) := bce hb
  replace kbf0 : w5.frozen? ⟨w.heap.size + 1, 0, none⟩ = false := bfz hb
  replace kbf1 : w5.frozen? ⟨w.heap.size + 1, 1, none⟩ = false := bfz hb
  replace kc0 : w5.cell? ⟨w.heap.size + 1 + 1, 0, none⟩ = some (.int .i64 0) := bce hb
  replace kc1 : w5.cell? ⟨w.heap.size + 1 + 1, 1, none⟩ = some (.int .i64 0) := bce hb
  replace kcf0 : w5.frozen? ⟨w.heap.size + 1 + 1, 0, none⟩ = false := bfz hb
  replace kcf1 : w5.frozen? ⟨w.heap.size + 1 + 1, 1, none⟩ = false := bfz hb
  replace o0 : w5.cell? ⟨w1.heap.size, 0, none⟩ = some (.int .i64 1) := bce hb
  replace o1 : w5.cell? ⟨w1.heap.size, 1, none⟩ = some (.int .i64 1) := bce hb
  replace r2_0 : w5.cell? ⟨w2.heap.size, 0, none⟩ = some (.int .i64 q1) := bce hb
  replace r2_1 : w5.cell? ⟨w2.heap.size, 1, none⟩ = some (.int .i64 q2) := bce hb
  replace r3_0 : w5.cell? ⟨w3.heap.size, 0, none⟩ = some (.int .i64 l1) := bce hb
  replace r3_1 : w5.cell? ⟨w3.heap.size, 1, none⟩ = some (.int .i64 l2) := bce hb
  have r4_0 : w5.cell? ⟨w4.heap.size, 0, none⟩ = some (.int .i64 h1) := bce hb
  have r4_1 : w5.cell? ⟨w4.heap.size, 1, none⟩ = some (.int .i64 h2) := bce hb
  clear hb HB4
  have zy0_5 : w.heap.size < w5.heap.size := by omega
  have zy1_5 : w.heap.size + 1 < w5.heap.size := by omega
  have zy2_5 : w.heap.size + 1 + 1 < w5.heap.size := by omega
  have zz_w1_5 : w1.heap.size < w5.heap.size := by omega
  have zz_w2_5 : w2.heap.size < w5.heap.size := by omega
  have zz_w3_5 : w3.heap.size < w5.heap.size := by omega
  have zz_w4_5 : w4.heap.size < w5.heap.size := by omega
  clear AC F1
  go_wp2_with fail
  go_cut [14, 15] (fun s14 s15 wx => ∃ q : Nat, s14 = .pointer (some ⟨q, 0, none⟩) ∧ s15 = .int .i64 t3 ∧ wx.cell? ⟨q, 0, none⟩ = some (.int .i64 t1) ∧ wx.cell? ⟨q, 1, none⟩ = some (.int .i64 t2) ∧ w5.heap.size ≤ q ∧ q < wx.heap.size ∧ wx.cell? ⟨w4.heap.size, 0, none⟩ = some (.int .i64 h1) ∧ wx.cell? ⟨w4.heap.size, 1, none⟩ = some (.int .i64 h2) ∧ wx.cell? ⟨w5.heap.size, 0, none⟩ = some (.int .i64 c1) ∧ wx.cell? ⟨w5.heap.size, 1, none⟩ = some (.int .i64 c2) ∧ wx.cell? ⟨w.heap.size + 1, 0, none⟩ = some (.int .i64 0) ∧ wx.cell? ⟨w.heap.size + 1, 1, none⟩ = some (.int .i64 0) ∧ wx.cell? ⟨w.heap.size + 1 + 1, 0, none⟩ = some (.int .i64 0) ∧ wx.cell? ⟨w.heap.size + 1 + 1, 1, none⟩ = some (.int .i64 0) ∧ wx.frozen? ⟨w.heap.size + 1, 0, none⟩ = false ∧ wx.frozen? ⟨w.heap.size + 1, 1, none⟩ = false ∧ wx.frozen? ⟨w.heap.size + 1 + 1, 0, none⟩ = false ∧ wx.frozen? ⟨w.heap.size + 1 + 1, 1, none⟩ = false ∧ w4.heap.size < wx.heap.size ∧ w5.heap.size < wx.heap.size ∧ w.heap.size + 1 + 1 < wx.heap.size ∧ Below w.heap.size w wx)
  case first =>
    go_region_held3 (fun w' => w'.cell? ⟨w.heap.size, 0, none⟩ = some (.int .i64 n) ∧ w'.cell? ⟨w.heap.size, 1, none⟩ = some (.int .i64 d)) (simp (maxDischargeDepth := 8) [go_sem, kp, *])
      ((first | (go_at_call 8; with_reducible refine (O2 _).mono ?_; rintro e w' ⟨rfl, hb⟩; obtain ⟨l9, d9, rfl⟩ := toExt hb; clear hb) | (go_at_call 77; with_reducible refine (AT2 _).mono ?_; rintro e w' ⟨rfl, hb⟩; obtain ⟨l9, d9, rfl⟩ := toExt hb; clear hb)))
    all_goals (try go_wp2_with fail)
    all_goals go_meet
    all_goals exact ⟨_, rfl, rfl, kk, kk, by (first | omega | (simp [ext_size, World.setCell] <;> omega)), by (first | omega | (simp [ext_size, World.setCell] <;> omega)), kk, kk, kk, kk, kk, kk, kk, kk, kk, kk, kk, kk, by (first | omega | (simp [ext_size, World.setCell] <;> omega)), by (first | omega | (simp [ext_size, World.setCell] <;> omega)), by (first | omega | (simp [ext_size, World.setCell] <;> omega)), kg⟩
  case rest =>
  obtain ⟨q, rfl, rfl, t0, t1', yq, zq, g0, g1, g2, g3, g4, g5, g6, g7, g8, g9, g10, g11, v4, v5, v2, HBc⟩ := hcut
  go_wp2_with fail
  with_reducible refine (AS _).mono ?_
  rintro e w7 ⟨rfl, hb⟩
  replace g0 : w7.cell? ⟨w4.heap.size, 0, none⟩ = some (.int .i64 h1) := (hb.cell (show w4.heap.size < wc.heap.size by omega)).trans g0
  replace g1 : w7.cell? ⟨w4.heap.size, 1, none⟩ = some (.int .i64 h2) := (hb.cell (show w4.heap.size < wc.heap.size by omega)).trans g1
  replace g2 : w7.cell? ⟨w5.heap.size, 0, none⟩ = some (.int .i64 c1) := (hb.cell (show w5.heap.size < wc.heap.size by omega)).trans g2
  replace g3 : w7.cell? ⟨w5.heap.size, 1, none⟩ = some (.int .i64 c2) := (hb.cell (show w5.heap.size < wc.heap.size by omega)).trans g3
  replace g4 : w7.cell? ⟨w.heap.size + 1, 0, none⟩ = some (.int .i64 0) := (hb.cell (show w.heap.size + 1 < wc.heap.size by omega)).trans g4
  replace g5 : w7.cell? ⟨w.heap.size + 1, 1, none⟩ = some (.int .i64 0) := (hb.cell (show w.heap.size + 1 < wc.heap.size by omega)).trans g5
  replace g6 : w7.cell? ⟨w.heap.size + 1 + 1, 0, none⟩ = some (.int .i64 0) := (hb.cell (show w.heap.size + 1 + 1 < wc.heap.size by omega)).trans g6
  replace g7 : w7.cell? ⟨w.heap.size + 1 + 1, 1, none⟩ = some (.int .i64 0) := (hb.cell (show w.heap.size + 1 + 1 < wc.heap.size by omega)).trans g7
  replace g8 : w7.frozen? ⟨w.heap.size + 1, 0, none⟩ = false := (hb.frozen (show w.heap.size + 1 < wc.heap.size by omega)).trans g8
  replace g9 : w7.frozen? ⟨w.heap.size + 1, 1, none⟩ = false := (hb.frozen (show w.heap.size + 1 < wc.heap.size by omega)).trans g9
  replace g10 : w7.frozen? ⟨w.heap.size + 1 + 1, 0, none⟩ = false := (hb.frozen (show w.heap.size + 1 + 1 < wc.heap.size by omega)).trans g10
  replace g11 : w7.frozen? ⟨w.heap.size + 1 + 1, 1, none⟩ = false := (hb.frozen (show w.heap.size + 1 + 1 < wc.heap.size by omega)).trans g11
  replace HBc := HBc.trans (hb.mono (by omega))
  have v7 : w5.heap.size < w7.heap.size := Nat.lt_of_lt_of_le v5 hb.size
  have v8 : w.heap.size + 1 + 1 < w7.heap.size := Nat.lt_of_lt_of_le v2 hb.size
  clear hb AS O2 AT2 t0 t1' g0 g1
  go_wp2_with fail
  have sq0 : w.heap.size + 1 < w7.heap.size := by omega
  go_region_held3 (fun w' => w'.cell? ⟨w5.heap.size, 0, none⟩ = some (.int .i64 c1) ∧ w'.cell? ⟨w5.heap.size, 1, none⟩ = some (.int .i64 c2) ∧ w'.cell? ⟨w7.heap.size, 0, none⟩ = some (.int .i64 s1) ∧ w'.cell? ⟨w7.heap.size, 1, none⟩ = some (.int .i64 s2)) (simp (maxDischargeDepth := 8) [go_sem, kp, *])
    ((go_at_call 56; with_reducible refine (F2 _).mono ?_; rintro e w' ⟨rfl, rfl⟩))
  all_goals (try go_wp2)
  all_goals refine bodyPost_ret (by simp [results, Try.results60, go_sem, ext_cell, kp, *]; try rfl) rfl ?_
  all_goals exact ⟨rfl, kb⟩
end Go.Proofs.Ytlijkebdaalldaa
namespace Go.Proofs.Ytlijkebdaalldaa
open Go.RowKit
set_option linter.unusedVariables false
set_option linter.unusedSimpArgs false

theorem ref_Of (n : Int) (w : World) : Calls Try.prog 8 #[.int .i64 n] w fun x w' => x = .returned (.agg #[.int .i64 n, .int .i64 1]) ∧ Below w.heap.size w w' := by
  have xR := xRul
  go_enter Try.func8, Try.ntmps8
  go_wp2
  refine bodyPost_ret (by simp [results, Try.results8, go_sem, ext_cell, kp, *]; try rfl) rfl ?_
  exact ⟨rfl, kb⟩
end Go.Proofs.Ytlijkebdaalldaa
