/-
  Package vec: Turn.
-/
import Derived.Test.YtdolfdmgdknboaaKu
import Derived.Test.YtdolfdmgdknboaaMA
import Derived.Test.YtdolfdmgdknboaaMG
import Derived.Deep.RegionHeld3
namespace Go.Proofs.Ytdolfdmgdknboaa
open Go.RowKit
set_option linter.unusedVariables false
set_option linter.unusedSimpArgs false

/-- The numbers of a turn about an axis. -/
def tuN (axis : Nat) (c1 c2 s1 s2 : Int) : Nat → Int := fun o =>
  if o / 6 = axis ∨ o % 6 / 2 = axis then unP o else
  if o / 6 = o % 6 / 2 then (if o % 2 = 0 then c1 else c2) else
  if o / 6 = (axis + 1) % 3 then (if o % 2 = 0 then -s1 else s2) else (if o % 2 = 0 then s1 else s2)
set_option maxRecDepth 100000 in
set_option maxHeartbeats 6400000 in
theorem vec_turn_bad (n d : Int) (axis : Int) (CK : ∀ w : World, Calls Try.prog 58 #[.agg #[.int .i64 n, .int .i64 d]] w fun x w' => x = .returned (.int .i64 8) ∧ Below w.heap.size w w') (w : World) :
    Calls Try.prog 18 #[.int .i64 axis, .agg #[.int .i64 n, .int .i64 d]] w fun x w' => x = .returned (.tuple #[.agg #[.int .i64 ((fun _ => 0) 0), .int .i64 ((fun _ => 0) 1), .int .i64 ((fun _ => 0) 2), .int .i64 ((fun _ => 0) 3), .int .i64 ((fun _ => 0) 4), .int .i64 ((fun _ => 0) 5), .int .i64 ((fun _ => 0) 6), .int .i64 ((fun _ => 0) 7), .int .i64 ((fun _ => 0) 8), .int .i64 ((fun _ => 0) 9), .int .i64 ((fun _ => 0) 10), .int .i64 ((fun _ => 0) 11), .int .i64 ((fun _ => 0) 12), .int .i64 ((fun _ => 0) 13), .int .i64 ((fun _ => 0) 14), .int .i64 ((fun _ => 0) 15), .int .i64 ((fun _ => 0) 16), .int .i64 ((fun _ => 0) 17)], .int .i64 8]) ∧ Below w.heap.size w w' := by
  have xR := xRul
  have dz1 := dzA
  have dz2 := dzB
  go_enter Try.func18, Try.ntmps18
  go_upto_region 1 with fail
  refine opq (fun wx => wx.cell? ⟨w.heap.size, 0, none⟩ = some (.int .i64 n) ∧ wx.cell? ⟨w.heap.size, 1, none⟩ = some (.int .i64 d) ∧ Cs wx (w.heap.size + 1) 18 (fun _ => 0) ∧ Fs wx (w.heap.size + 1) 18 ∧ w.heap.size + 1 < wx.heap.size ∧ Below w.heap.size w wx) ?_ ?_
  · exact ⟨kk, kk, cs_new (by simp) arr0, fs_new (by simp), by simp, kb⟩
  rintro wz ⟨k0, k1, cR, fR, zs, HBa⟩
  go_wp2_with fail
  with_reducible refine (CK _).mono ?_
  rintro e w1 ⟨rfl, hb⟩
  replace k0 : w1.cell? ⟨w.heap.size, 0, none⟩ = some (.int .i64 n) := (hb.cell (show w.heap.size < wz.heap.size by omega)).trans k0
  replace k1 : w1.cell? ⟨w.heap.size, 1, none⟩ = some (.int .i64 d) := (hb.cell (show w.heap.size < wz.heap.size by omega)).trans k1
  replace cR := cs_below cR hb (by omega)
  replace fR := fs_below fR hb (by omega)
  replace HBa := HBa.trans (hb.mono (by omega))
  replace zs := Nat.lt_of_lt_of_le zs hb.size
  clear hb CK
  go_upto_region 3 with fail
  go_step
  refine wpList_plain rfl (fun K hK => ?_)
  go_big_op
  refine hK _ _ ?_
  clear hK K
  refine wpList_plain rfl (fun K hK => ?_)
  go_big_op
  refine hK _ _ ?_
  clear hK K
  refine store18 (.tmp 4) (.tmp 17) (w.heap.size + 1) (fun _ => 0) (fun _ => 0) cR fR rfl rfl rfl rfl ?_
  intro wx cX fX sX bX
  have HBx := bX w.heap.size w (by omega) HBa
  clear cR fR HBa bX fX sX
  go_wp2
  refine bodyPost_ret (res_mat2 (v := .int .i64 8) Try.results18 rfl rfl cX) rfl ?_
  exact ⟨rfl, HBx⟩

set_option maxRecDepth 100000 in
set_option maxHeartbeats 6400000 in
theorem vec_turn_low (n d : Int) (axis : Int) (ha : axis < 0) (CK : ∀ w : World, Calls Try.prog 58 #[.agg #[.int .i64 n, .int .i64 d]] w fun x w' => x = .returned (.int .i64 0) ∧ Below w.heap.size w w') (w : World) :
    Calls Try.prog 18 #[.int .i64 axis, .agg #[.int .i64 n, .int .i64 d]] w fun x w' => x = .returned (.tuple #[.agg #[.int .i64 ((fun _ => 0) 0), .int .i64 ((fun _ => 0) 1), .int .i64 ((fun _ => 0) 2), .int .i64 ((fun _ => 0) 3), .int .i64 ((fun _ => 0) 4), .int .i64 ((fun _ => 0) 5), .int .i64 ((fun _ => 0) 6), .int .i64 ((fun _ => 0) 7), .int .i64 ((fun _ => 0) 8), .int .i64 ((fun _ => 0) 9), .int .i64 ((fun _ => 0) 10), .int .i64 ((fun _ => 0) 11), .int .i64 ((fun _ => 0) 12), .int .i64 ((fun _ => 0) 13), .int .i64 ((fun _ => 0) 14), .int .i64 ((fun _ => 0) 15), .int .i64 ((fun _ => 0) 16), .int .i64 ((fun _ => 0) 17)], .int .i64 2]) ∧ Below w.heap.size w w' := by
  have xR := xRul
  have dz1 := dzA
  have dz2 := dzB
  go_enter Try.func18, Try.ntmps18
  go_upto_region 1 with fail
  refine opq (fun wx => wx.cell? ⟨w.heap.size, 0, none⟩ = some (.int .i64 n) ∧ wx.cell? ⟨w.heap.size, 1, none⟩ = some (.int .i64 d) ∧ Cs wx (w.heap.size + 1) 18 (fun _ => 0) ∧ Fs wx (w.heap.size + 1) 18 ∧ w.heap.size + 1 < wx.heap.size ∧ Below w.heap.size w wx) ?_ ?_
  · exact ⟨kk, kk, cs_new (by simp) arr0, fs_new (by simp), by simp, kb⟩
  rintro wz ⟨k0, k1, cR, fR, zs, HBa⟩
  go_wp2_with fail
  with_reducible refine (CK _).mono ?_
  rintro e w1 ⟨rfl, hb⟩
  replace k0 : w1.cell? ⟨w.heap.size, 0, none⟩ = some (.int .i64 n) := (hb.cell (show w.heap.size < wz.heap.size by omega)).trans k0
  replace k1 : w1.cell? ⟨w.heap.size, 1, none⟩ = some (.int .i64 d) := (hb.cell (show w.heap.size < wz.heap.size by omega)).trans k1
  replace cR := cs_below cR hb (by omega)
  replace fR := fs_below fR hb (by omega)
  replace HBa := HBa.trans (hb.mono (by omega))
  replace zs := Nat.lt_of_lt_of_le zs hb.size
  clear hb CK
  go_upto_region 5 with fail
  go_step
  refine wpList_plain rfl (fun K hK => ?_)
  go_big_op
  refine hK _ _ ?_
  clear hK K
  refine store18 (.tmp 4) (.tmp 25) (w.heap.size + 1) (fun _ => 0) (fun _ => 0) cR fR rfl rfl rfl rfl ?_
  intro wx cX fX sX bX
  have HBx := bX w.heap.size w (by omega) HBa
  clear cR fR HBa bX fX sX
  go_wp2
  refine bodyPost_ret (res_mat2 (v := .int .i64 2) Try.results18 rfl rfl cX) rfl ?_
  exact ⟨rfl, HBx⟩

set_option maxRecDepth 100000 in
set_option maxHeartbeats 6400000 in
theorem vec_turn_high (n d : Int) (axis : Int) (ha : ¬ axis < 0) (hb2 : 2 < axis) (CK : ∀ w : World, Calls Try.prog 58 #[.agg #[.int .i64 n, .int .i64 d]] w fun x w' => x = .returned (.int .i64 0) ∧ Below w.heap.size w w') (w : World) :
    Calls Try.prog 18 #[.int .i64 axis, .agg #[.int .i64 n, .int .i64 d]] w fun x w' => x = .returned (.tuple #[.agg #[.int .i64 ((fun _ => 0) 0), .int .i64 ((fun _ => 0) 1), .int .i64 ((fun _ => 0) 2), .int .i64 ((fun _ => 0) 3), .int .i64 ((fun _ => 0) 4), .int .i64 ((fun _ => 0) 5), .int .i64 ((fun _ => 0) 6), .int .i64 ((fun _ => 0) 7), .int .i64 ((fun _ => 0) 8), .int .i64 ((fun _ => 0) 9), .int .i64 ((fun _ => 0) 10), .int .i64 ((fun _ => 0) 11), .int .i64 ((fun _ => 0) 12), .int .i64 ((fun _ => 0) 13), .int .i64 ((fun _ => 0) 14), .int .i64 ((fun _ => 0) 15), .int .i64 ((fun _ => 0) 16), .int .i64 ((fun _ => 0) 17)], .int .i64 2]) ∧ Below w.heap.size w w' := by
  have xR := xRul
  have dz1 := dzA
  have dz2 := dzB
  go_enter Try.func18, Try.ntmps18
  go_upto_region 1 with fail
  refine opq (fun wx => wx.cell? ⟨w.heap.size, 0, none⟩ = some (.int .i64 n) ∧ wx.cell? ⟨w.heap.size, 1, none⟩ = some (.int .i64 d) ∧ Cs wx (w.heap.size + 1) 18 (fun _ => 0) ∧ Fs wx (w.heap.size + 1) 18 ∧ w.heap.size + 1 < wx.heap.size ∧ Below w.heap.size w wx) ?_ ?_
  · exact ⟨kk, kk, cs_new (by simp) arr0, fs_new (by simp), by simp, kb⟩
  rintro wz ⟨k0, k1, cR, fR, zs, HBa⟩
  go_wp2_with fail
  with_reducible refine (CK _).mono ?_
  rintro e w1 ⟨rfl, hb⟩
  replace k0 : w1.cell? ⟨w.heap.size, 0, none⟩ = some (.int .i64 n) := (hb.cell (show w.heap.size < wz.heap.size by omega)).trans k0
  replace k1 : w1.cell? ⟨w.heap.size, 1, none⟩ = some (.int .i64 d) := (hb.cell (show w.heap.size < wz.heap.size by omega)).trans k1
  replace cR := cs_below cR hb (by omega)
  replace fR := fs_below fR hb (by omega)
  replace HBa := HBa.trans (hb.mono (by omega))
  replace zs := Nat.lt_of_lt_of_le zs hb.size
  clear hb CK
  go_upto_region 5 with fail
  go_step
  refine wpList_plain rfl (fun K hK => ?_)
  go_big_op
  refine hK _ _ ?_
  clear hK K
  refine store18 (.tmp 4) (.tmp 25) (w.heap.size + 1) (fun _ => 0) (fun _ => 0) cR fR rfl rfl rfl rfl ?_
  intro wx cX fX sX bX
  have HBx := bX w.heap.size w (by omega) HBa
  clear cR fR HBa bX fX sX
  go_wp2
  refine bodyPost_ret (res_mat2 (v := .int .i64 2) Try.results18 rfl rfl cX) rfl ?_
  exact ⟨rfl, HBx⟩

set_option maxRecDepth 100000 in
set_option maxHeartbeats 6400000 in
theorem vec_turn_err0 (n d : Int) (c1 c2 s1 s2 e0 : Int) (he : (e0 == 0) = false) (CK : ∀ w : World, Calls Try.prog 58 #[.agg #[.int .i64 n, .int .i64 d]] w fun x w' => x = .returned (.int .i64 0) ∧ Below w.heap.size w w') (CI : ∀ w : World, Calls Try.prog 59 #[.agg #[.int .i64 n, .int .i64 d]] w fun x w' => x = .returned (.tuple #[.agg #[.int .i64 c1, .int .i64 c2], .agg #[.int .i64 s1, .int .i64 s2], .int .i64 e0]) ∧ Below w.heap.size w w') (w : World) :
    Calls Try.prog 18 #[.int .i64 0, .agg #[.int .i64 n, .int .i64 d]] w fun x w' => x = .returned (.tuple #[.agg #[.int .i64 ((fun _ => 0) 0), .int .i64 ((fun _ => 0) 1), .int .i64 ((fun _ => 0) 2), .int .i64 ((fun _ => 0) 3), .int .i64 ((fun _ => 0) 4), .int .i64 ((fun _ => 0) 5), .int .i64 ((fun _ => 0) 6), .int .i64 ((fun _ => 0) 7), .int .i64 ((fun _ => 0) 8), .int .i64 ((fun _ => 0) 9), .int .i64 ((fun _ => 0) 10), .int .i64 ((fun _ => 0) 11), .int .i64 ((fun _ => 0) 12), .int .i64 ((fun _ => 0) 13), .int .i64 ((fun _ => 0) 14), .int .i64 ((fun _ => 0) 15), .int .i64 ((fun _ => 0) 16), .int .i64 ((fun _ => 0) 17)], .int .i64 e0]) ∧ Below w.heap.size w w' := by
  have xR := xRul
  have dz1 := dzA
  have dz2 := dzB
  go_enter Try.func18, Try.ntmps18
  go_upto_region 1 with fail
  refine opq (fun wx => wx.cell? ⟨w.heap.size, 0, none⟩ = some (.int .i64 n) ∧ wx.cell? ⟨w.heap.size, 1, none⟩ = some (.int .i64 d) ∧ Cs wx (w.heap.size + 1) 18 (fun _ => 0) ∧ Fs wx (w.heap.size + 1) 18 ∧ w.heap.size + 1 < wx.heap.size ∧ Below w.heap.size w wx) ?_ ?_
  · exact ⟨kk, kk, cs_new (by simp) arr0, fs_new (by simp), by simp, kb⟩
  rintro wz ⟨k0, k1, cR, fR, zs, HBa⟩
  go_wp2_with fail
  with_reducible refine (CK _).mono ?_
  rintro e w1 ⟨rfl, hb⟩
  replace k0 : w1.cell? ⟨w.heap.size, 0, none⟩ = some (.int .i64 n) := (hb.cell (show w.heap.size < wz.heap.size by omega)).trans k0
  replace k1 : w1.cell? ⟨w.heap.size, 1, none⟩ = some (.int .i64 d) := (hb.cell (show w.heap.size < wz.heap.size by omega)).trans k1
  replace cR := cs_below cR hb (by omega)
  replace fR := fs_below fR hb (by omega)
  replace HBa := HBa.trans (hb.mono (by omega))
  replace zs := Nat.lt_of_lt_of_le zs hb.size
  clear hb CK
  go_wp2_with fail
  with_reducible refine (CI _).mono ?_
  rintro e w2 ⟨rfl, hb⟩
  replace cR := cs_below cR hb (by omega)
  replace fR := fs_below fR hb (by omega)
  replace HBa := HBa.trans (hb.mono (by omega))
  replace zs := Nat.lt_of_lt_of_le zs hb.size
  clear hb CI k0 k1
  go_upto_region 8 with fail
  refine opq (fun wx => Cs wx (w.heap.size + 1) 18 (fun _ => 0) ∧ Fs wx (w.heap.size + 1) 18 ∧ Below w.heap.size w wx) ?_ ?_
  · exact ⟨kc, kf, kg⟩
  clear cR fR HBa zs
  rintro wy ⟨cR, fR, HBa⟩
  go_upto_region 8 with fail
  go_step
  refine wpList_plain rfl (fun K hK => ?_)
  go_big_op
  refine hK _ _ ?_
  clear hK K
  refine wpList_plain rfl (fun K hK => ?_)
  go_big_op
  refine hK _ _ ?_
  clear hK K
  refine store18 (.tmp 4) (.tmp 34) (w.heap.size + 1) (fun _ => 0) (fun _ => 0) cR fR rfl rfl rfl rfl ?_
  intro wx cX fX sX bX
  have HBx := bX w.heap.size w (by omega) HBa
  clear cR fR HBa bX fX sX
  go_wp2
  refine bodyPost_ret (res_mat2 (v := .int .i64 e0) Try.results18 rfl rfl cX) rfl ?_
  exact ⟨rfl, HBx⟩

set_option maxRecDepth 100000 in
set_option maxHeartbeats 6400000 in
theorem vec_turn_err1 (n d : Int) (c1 c2 s1 s2 e0 : Int) (he : (e0 == 0) = false) (CK : ∀ w : World, Calls Try.prog 58 #[.agg #[.int .i64 n, .int .i64 d]] w fun x w' => x = .returned (.int .i64 0) ∧ Below w.heap.size w w') (CI : ∀ w : World, Calls Try.prog 59 #[.agg #[.int .i64 n, .int .i64 d]] w fun x w' => x = .returned (.tuple #[.agg #[.int .i64 c1, .int .i64 c2], .agg #[.int .i64 s1, .int .i64 s2], .int .i64 e0]) ∧ Below w.heap.size w w') (w : World) :
    Calls Try.prog 18 #[.int .i64 1, .agg #[.int .i64 n, .int .i64 d]] w fun x w' => x = .returned (.tuple #[.agg #[.int .i64 ((fun _ => 0) 0), .int .i64 ((fun _ => 0) 1), .int .i64 ((fun _ => 0) 2), .int .i64 ((fun _ => 0) 3), .int .i64 ((fun _ => 0) 4), .int .i64 ((fun _ => 0) 5), .int .i64 ((fun _ => 0) 6), .int .i64 ((fun _ => 0) 7), .int .i64 ((fun _ => 0) 8), .int .i64 ((fun _ => 0) 9), .int .i64 ((fun _ => 0) 10), .int .i64 ((fun _ => 0) 11), .int .i64 ((fun _ => 0) 12), .int .i64 ((fun _ => 0) 13), .int .i64 ((fun _ => 0) 14), .int .i64 ((fun _ => 0) 15), .int .i64 ((fun _ => 0) 16), .int .i64 ((fun _ => 0) 17)], .int .i64 e0]) ∧ Below w.heap.size w w' := by
  have xR := xRul
  have dz1 := dzA
  have dz2 := dzB
  go_enter Try.func18, Try.ntmps18
  go_upto_region 1 with fail
  refine opq (fun wx => wx.cell? ⟨w.heap.size, 0, none⟩ = some (.int .i64 n) ∧ wx.cell? ⟨w.heap.size, 1, none⟩ = some (.int .i64 d) ∧ Cs wx (w.heap.size + 1) 18 (fun _ => 0) ∧ Fs wx (w.heap.size + 1) 18 ∧ w.heap.size + 1 < wx.heap.size ∧ Below w.heap.size w wx) ?_ ?_
  · exact ⟨kk, kk, cs_new (by simp) arr0, fs_new (by simp), by simp, kb⟩
  rintro wz ⟨k0, k1, cR, fR, zs, HBa⟩
  go_wp2_with fail
  with_reducible refine (CK _).mono ?_
  rintro e w1 ⟨rfl, hb⟩
  replace k0 : w1.cell? ⟨w.heap.size, 0, none⟩ = some (.int .i64 n) := (hb.cell (show w.heap.size < wz.heap.size by omega)).trans k0
  replace k1 : w1.cell? ⟨w.heap.size, 1, none⟩ = some (.int .i64 d) := (hb.cell (show w.heap.size < wz.heap.size by omega)).trans k1
  replace cR := cs_below cR hb (by omega)
  replace fR := fs_below fR hb (by omega)
  replace HBa := HBa.trans (hb.mono (by omega))
  replace zs := Nat.lt_of_lt_of_le zs hb.size
  clear hb CK
  go_wp2_with fail
  with_reducible refine (CI _).mono ?_
  rintro e w2 ⟨rfl, hb⟩
  replace cR := cs_below cR hb (by omega)
  replace fR := fs_below fR hb (by omega)
  replace HBa := HBa.trans (hb.mono (by omega))
  replace zs := Nat.lt_of_lt_of_le zs hb.size
  clear hb CI k0 k1
  go_upto_region 8 with fail
  refine opq (fun wx => Cs wx (w.heap.size + 1) 18 (fun _ => 0) ∧ Fs wx (w.heap.size + 1) 18 ∧ Below w.heap.size w wx) ?_ ?_
  · exact ⟨kc, kf, kg⟩
  clear cR fR HBa zs
  rintro wy ⟨cR, fR, HBa⟩
  go_upto_region 8 with fail
  go_step
  refine wpList_plain rfl (fun K hK => ?_)
  go_big_op
  refine hK _ _ ?_
  clear hK K
  refine wpList_plain rfl (fun K hK => ?_)
  go_big_op
  refine hK _ _ ?_
  clear hK K
  refine store18 (.tmp 4) (.tmp 34) (w.heap.size + 1) (fun _ => 0) (fun _ => 0) cR fR rfl rfl rfl rfl ?_
  intro wx cX fX sX bX
  have HBx := bX w.heap.size w (by omega) HBa
  clear cR fR HBa bX fX sX
  go_wp2
  refine bodyPost_ret (res_mat2 (v := .int .i64 e0) Try.results18 rfl rfl cX) rfl ?_
  exact ⟨rfl, HBx⟩

set_option maxRecDepth 100000 in
set_option maxHeartbeats 6400000 in
theorem vec_turn_err2 (n d : Int) (c1 c2 s1 s2 e0 : Int) (he : (e0 == 0) = false) (CK : ∀ w : World, Calls Try.prog 58 #[.agg #[.int .i64 n, .int .i64 d]] w fun x w' => x = .returned (.int .i64 0) ∧ Below w.heap.size w w') (CI : ∀ w : World, Calls Try.prog 59 #[.agg #[.int .i64 n, .int .i64 d]] w fun x w' => x = .returned (.tuple #[.agg #[.int .i64 c1, .int .i64 c2], .agg #[.int .i64 s1, .int .i64 s2], .int .i64 e0]) ∧ Below w.heap.size w w') (w : World) :
    Calls Try.prog 18 #[.int .i64 2, .agg #[.int .i64 n, .int .i64 d]] w fun x w' => x = .returned (.tuple #[.agg #[.int .i64 ((fun _ => 0) 0), .int .i64 ((fun _ => 0) 1), .int .i64 ((fun _ => 0) 2), .int .i64 ((fun _ => 0) 3), .int .i64 ((fun _ => 0) 4), .int .i64 ((fun _ => 0) 5), .int .i64 ((fun _ => 0) 6), .int .i64 ((fun _ => 0) 7), .int .i64 ((fun _ => 0) 8), .int .i64 ((fun _ => 0) 9), .int .i64 ((fun _ => 0) 10), .int .i64 ((fun _ => 0) 11), .int .i64 ((fun _ => 0) 12), .int .i64 ((fun _ => 0) 13), .int .i64 ((fun _ => 0) 14), .int .i64 ((fun _ => 0) 15), .int .i64 ((fun _ => 0) 16), .int .i64 ((fun _ => 0) 17)], .int .i64 e0]) ∧ Below w.heap.size w w' := by
  have xR := xRul
  have dz1 := dzA
  have dz2 := dzB
  go_enter Try.func18, Try.ntmps18
  go_upto_region 1 with fail
  refine opq (fun wx => wx.cell? ⟨w.heap.size, 0, none⟩ = some (.int .i64 n) ∧ wx.cell? ⟨w.heap.size, 1, none⟩ = some (.int .i64 d) ∧ Cs wx (w.heap.size + 1) 18 (fun _ => 0) ∧ Fs wx (w.heap.size + 1) 18 ∧ w.heap.size + 1 < wx.heap.size ∧ Below w.heap.size w wx) ?_ ?_
  · exact ⟨kk, kk, cs_new (by simp) arr0, fs_new (by simp), by simp, kb⟩
  rintro wz ⟨k0, k1, cR, fR, zs, HBa⟩
  go_wp2_with fail
  with_reducible refine (CK _).mono ?_
  rintro e w1 ⟨rfl, hb⟩
  replace k0 : w1.cell? ⟨w.heap.size, 0, none⟩ = some (.int .i64 n) := (hb.cell (show w.heap.size < wz.heap.size by omega)).trans k0
  replace k1 : w1.cell? ⟨w.heap.size, 1, none⟩ = some (.int .i64 d) := (hb.cell (show w.heap.size < wz.heap.size by omega)).trans k1
  replace cR := cs_below cR hb (by omega)
  replace fR := fs_below fR hb (by omega)
  replace HBa := HBa.trans (hb.mono (by omega))
  replace zs := Nat.lt_of_lt_of_le zs hb.size
  clear hb CK
  go_wp2_with fail
  with_reducible refine (CI _).mono ?_
  rintro e w2 ⟨rfl, hb⟩
  replace cR := cs_below cR hb (by omega)
  replace fR := fs_below fR hb (by omega)
  replace HBa := HBa.trans (hb.mono (by omega))
  replace zs := Nat.lt_of_lt_of_le zs hb.size
  clear hb CI k0 k1
  go_upto_region 8 with fail
  refine opq (fun wx => Cs wx (w.heap.size + 1) 18 (fun _ => 0) ∧ Fs wx (w.heap.size + 1) 18 ∧ Below w.heap.size w wx) ?_ ?_
  · exact ⟨kc, kf, kg⟩
  clear cR fR HBa zs
  rintro wy ⟨cR, fR, HBa⟩
  go_upto_region 8 with fail
  go_step
  refine wpList_plain rfl (fun K hK => ?_)
  go_big_op
  refine hK _ _ ?_
  clear hK K
  refine wpList_plain rfl (fun K hK => ?_)
  go_big_op
  refine hK _ _ ?_
  clear hK K
  refine store18 (.tmp 4) (.tmp 34) (w.heap.size + 1) (fun _ => 0) (fun _ => 0) cR fR rfl rfl rfl rfl ?_
  intro wx cX fX sX bX
  have HBx := bX w.heap.size w (by omega) HBa
  clear cR fR HBa bX fX sX
  go_wp2
  refine bodyPost_ret (res_mat2 (v := .int .i64 e0) Try.results18 rfl rfl cX) rfl ?_
  exact ⟨rfl, HBx⟩

set_option maxRecDepth 100000 in
set_option maxHeartbeats 6400000 in
theorem vec_turn_ok0 (n d : Int) (c1 c2 s1 s2 : Int) (CK : ∀ w : World, Calls Try.prog 58 #[.agg #[.int .i64 n, .int .i64 d]] w fun x w' => x = .returned (.int .i64 0) ∧ Below w.heap.size w w') (CI : ∀ w : World, Calls Try.prog 59 #[.agg #[.int .i64 n, .int .i64 d]] w fun x w' => x = .returned (.tuple #[.agg #[.int .i64 c1, .int .i64 c2], .agg #[.int .i64 s1, .int .i64 s2], .int .i64 0]) ∧ Below w.heap.size w w') (U : ∀ w : World, Calls Try.prog 60 #[] w fun x w' => x = .returned (.agg #[.int .i64 (unP 0), .int .i64 (unP 1), .int .i64 (unP 2), .int .i64 (unP 3), .int .i64 (unP 4), .int .i64 (unP 5), .int .i64 (unP 6), .int .i64 (unP 7), .int .i64 (unP 8), .int .i64 (unP 9), .int .i64 (unP 10), .int .i64 (unP 11), .int .i64 (unP 12), .int .i64 (unP 13), .int .i64 (unP 14), .int .i64 (unP 15), .int .i64 (unP 16), .int .i64 (unP 17)]) ∧ Below w.heap.size w w') (MI : ∀ w : World, Calls Try.prog 62 #[.agg #[.int .i64 s1, .int .i64 s2]] w fun x w' => x = .returned (.agg #[.int .i64 (-s1), .int .i64 s2]) ∧ Below w.heap.size w w') (AF0 : ∀ w : World, Calls Try.prog 61 #[.int .i64 0] w fun x w' => x = .returned (.tuple #[.int .i64 1, .int .i64 2]) ∧ Below w.heap.size w w') (AF1 : ∀ w : World, Calls Try.prog 61 #[.int .i64 1] w fun x w' => x = .returned (.tuple #[.int .i64 2, .int .i64 0]) ∧ Below w.heap.size w w') (AF2 : ∀ w : World, Calls Try.prog 61 #[.int .i64 2] w fun x w' => x = .returned (.tuple #[.int .i64 0, .int .i64 1]) ∧ Below w.heap.size w w') (w : World) :
    Calls Try.prog 18 #[.int .i64 0, .agg #[.int .i64 n, .int .i64 d]] w fun x w' => x = .returned (.tuple #[.agg #[.int .i64 ((tuN 0 c1 c2 s1 s2) 0), .int .i64 ((tuN 0 c1 c2 s1 s2) 1), .int .i64 ((tuN 0 c1 c2 s1 s2) 2), .int .i64 ((tuN 0 c1 c2 s1 s2) 3), .int .i64 ((tuN 0 c1 c2 s1 s2) 4), .int .i64 ((tuN 0 c1 c2 s1 s2) 5), .int .i64 ((tuN 0 c1 c2 s1 s2) 6), .int .i64 ((tuN 0 c1 c2 s1 s2) 7), .int .i64 ((tuN 0 c1 c2 s1 s2) 8), .int .i64 ((tuN 0 c1 c2 s1 s2) 9), .int .i64 ((tuN 0 c1 c2 s1 s2) 10), .int .i64 ((tuN 0 c1 c2 s1 s2) 11), .int .i64 ((tuN 0 c1 c2 s1 s2) 12), .int .i64 ((tuN 0 c1 c2 s1 s2) 13), .int .i64 ((tuN 0 c1 c2 s1 s2) 14), .int .i64 ((tuN 0 c1 c2 s1 s2) 15), .int .i64 ((tuN 0 c1 c2 s1 s2) 16), .int .i64 ((tuN 0 c1 c2 s1 s2) 17)], .int .i64 0]) ∧ Below w.heap.size w w' := by
  have xR := xRul
  have dz1 := dzA
  have dz2 := dzB
  go_enter Try.func18, Try.ntmps18
  go_upto_region 1 with fail
  refine opq (fun wx => wx.cell? ⟨w.heap.size, 0, none⟩ = some (.int .i64 n) ∧ wx.cell? ⟨w.heap.size, 1, none⟩ = some (.int .i64 d) ∧ Cs wx (w.heap.size + 1) 18 (fun _ => 0) ∧ Fs wx (w.heap.size + 1) 18 ∧ w.heap.size + 1 < wx.heap.size ∧ Below w.heap.size w wx) ?_ ?_
  · exact ⟨kk, kk, cs_new (by simp) arr0, fs_new (by simp), by simp, kb⟩
  rintro wz ⟨k0, k1, cR, fR, zs, HBa⟩
  go_wp2_with fail
  with_reducible refine (CK _).mono ?_
  rintro e w1 ⟨rfl, hb⟩
  replace k0 : w1.cell? ⟨w.heap.size, 0, none⟩ = some (.int .i64 n) := (hb.cell (show w.heap.size < wz.heap.size by omega)).trans k0
  replace k1 : w1.cell? ⟨w.heap.size, 1, none⟩ = some (.int .i64 d) := (hb.cell (show w.heap.size < wz.heap.size by omega)).trans k1
  replace cR := cs_below cR hb (by omega)
  replace fR := fs_below fR hb (by omega)
  replace HBa := HBa.trans (hb.mono (by omega))
  replace zs := Nat.lt_of_lt_of_le zs hb.size
  clear hb CK
  go_wp2_with fail
  with_reducible refine (CI _).mono ?_
  rintro e w2 ⟨rfl, hb⟩
  replace cR := cs_below cR hb (by omega)
  replace fR := fs_below fR hb (by omega)
  replace HBa := HBa.trans (hb.mono (by omega))
  replace zs := Nat.lt_of_lt_of_le zs hb.size
  clear hb CI k0 k1
  go_upto_region 9 with fail
  refine opq (fun wx => Cs wx (w.heap.size + 1) 18 (fun _ => 0) ∧ Fs wx (w.heap.size + 1) 18 ∧ wx.cell? ⟨w2.heap.size, 0, none⟩ = some (.int .i64 c1) ∧ wx.cell? ⟨w2.heap.size, 1, none⟩ = some (.int .i64 c2) ∧ wx.cell? ⟨w2.heap.size + 1, 0, none⟩ = some (.int .i64 s1) ∧ wx.cell? ⟨w2.heap.size + 1, 1, none⟩ = some (.int .i64 s2) ∧ w2.heap.size + 1 < wx.heap.size ∧ Below w.heap.size w wx) ?_ ?_
  · exact ⟨kc, kf, kk, kk, kk, kk, by simp [World.setCell], kg⟩
  clear cR fR HBa
  generalize hq : w2.heap.size = q
  have zq0 : w.heap.size + 1 < q := by omega
  clear hq zs
  rintro wy ⟨cR, fR, a0, a1, a2, a3, zs, HBa⟩
  go_step
  refine wpList_plain rfl (fun K hK => ?_)
  go_big_op
  with_reducible refine (U _).mono ?_
  rintro e w3 ⟨rfl, hb⟩
  simp only []
  refine hK _ _ ?_
  clear hK K
  replace a0 : w3.cell? ⟨q, 0, none⟩ = some (.int .i64 c1) := (hb.cell (show q < wy.heap.size by omega)).trans a0
  replace a1 : w3.cell? ⟨q, 1, none⟩ = some (.int .i64 c2) := (hb.cell (show q < wy.heap.size by omega)).trans a1
  replace a2 : w3.cell? ⟨q + 1, 0, none⟩ = some (.int .i64 s1) := (hb.cell (show q + 1 < wy.heap.size by omega)).trans a2
  replace a3 : w3.cell? ⟨q + 1, 1, none⟩ = some (.int .i64 s2) := (hb.cell (show q + 1 < wy.heap.size by omega)).trans a3
  replace cR := cs_below cR hb (by omega)
  replace fR := fs_below fR hb (by omega)
  replace HBa := HBa.trans (hb.mono (by omega))
  replace zs := Nat.lt_of_lt_of_le zs hb.size
  clear hb U
  refine wpList_plain rfl (fun K hK => ?_)
  go_big_op
  refine hK _ _ ?_
  clear hK K
  refine store18 (.tmp 10) (.tmp 36) w3.heap.size unP (fun _ => 0) (cs_new rfl arr0) (fs_new rfl) rfl rfl rfl rfl ?_
  intro wa cU fU sX bX
  have hb := bX w3.heap.size w3 (Nat.le_refl _) (bal (b0 _) _)
  have zg : w3.heap.size < wa.heap.size := by rw [sX]; simp
  have zqg : q + 1 < w3.heap.size := zs
  replace a0 : wa.cell? ⟨q, 0, none⟩ = some (.int .i64 c1) := (hb.cell (show q < w3.heap.size by omega)).trans a0
  replace a1 : wa.cell? ⟨q, 1, none⟩ = some (.int .i64 c2) := (hb.cell (show q < w3.heap.size by omega)).trans a1
  replace a2 : wa.cell? ⟨q + 1, 0, none⟩ = some (.int .i64 s1) := (hb.cell (show q + 1 < w3.heap.size by omega)).trans a2
  replace a3 : wa.cell? ⟨q + 1, 1, none⟩ = some (.int .i64 s2) := (hb.cell (show q + 1 < w3.heap.size by omega)).trans a3
  replace cR := cs_below cR hb (by omega)
  replace fR := fs_below fR hb (by omega)
  replace HBa := HBa.trans (hb.mono (by omega))
  replace zs := Nat.lt_of_lt_of_le zs hb.size
  clear hb bX sX
  generalize w3.heap.size = g at *
  go_wp2_with fail
  with_reducible refine (AF0 _).mono ?_
  rintro e w5 ⟨rfl, hb⟩
  replace cU := cs_below cU hb (by omega)
  replace fU := fs_below fU hb (by omega)
  replace zg := Nat.lt_of_lt_of_le zg hb.size
  replace a0 : w5.cell? ⟨q, 0, none⟩ = some (.int .i64 c1) := (hb.cell (show q < wa.heap.size by omega)).trans a0
  replace a1 : w5.cell? ⟨q, 1, none⟩ = some (.int .i64 c2) := (hb.cell (show q < wa.heap.size by omega)).trans a1
  replace a2 : w5.cell? ⟨q + 1, 0, none⟩ = some (.int .i64 s1) := (hb.cell (show q + 1 < wa.heap.size by omega)).trans a2
  replace a3 : w5.cell? ⟨q + 1, 1, none⟩ = some (.int .i64 s2) := (hb.cell (show q + 1 < wa.heap.size by omega)).trans a3
  replace cR := cs_below cR hb (by omega)
  replace fR := fs_below fR hb (by omega)
  replace HBa := HBa.trans (hb.mono (by omega))
  replace zs := Nat.lt_of_lt_of_le zs hb.size
  clear hb AF0
  have cg : ∀ o, o < 18 → w5.cell? ⟨g, o, none⟩ = some (.int .i64 (unP o)) := cU
  have fg : ∀ o, o < 18 → w5.frozen? ⟨g, o, none⟩ = false := fU
  have y1 : q < w5.heap.size := by omega
  have y2 : (g = q) = False := eq_false (by omega)
  have y3 : (g = q + 1) = False := eq_false (by omega)
  have y4 : (q = g) = False := eq_false (by omega)
  have y5 : (q + 1 = g) = False := eq_false (by omega)
  go_wp2_with fail
  go_region_held3 (fun w' => w'.cell? ⟨q, 0, none⟩ = some (.int .i64 c1) ∧ w'.cell? ⟨q, 1, none⟩ = some (.int .i64 c2) ∧ w'.cell? ⟨q + 1, 0, none⟩ = some (.int .i64 s1) ∧ w'.cell? ⟨q + 1, 1, none⟩ = some (.int .i64 s2)) (simp (maxDischargeDepth := 8) [go_sem, kp, *])
    ((go_at_call 62; with_reducible refine (MI _).mono ?_; rintro e w' ⟨rfl, hb⟩; obtain ⟨l9, d9, rfl⟩ := toExt hb; clear hb))
  all_goals (try go_wp2_with fail)
  all_goals go_region_held3 (fun w' => w'.cell? ⟨q, 0, none⟩ = some (.int .i64 c1) ∧ w'.cell? ⟨q, 1, none⟩ = some (.int .i64 c2) ∧ w'.cell? ⟨q + 1, 0, none⟩ = some (.int .i64 s1) ∧ w'.cell? ⟨q + 1, 1, none⟩ = some (.int .i64 s2)) (simp (maxDischargeDepth := 8) [go_sem, kp, *])
    (fail)
  all_goals go_upto_region 13 with fail
  all_goals (refine opq (fun wx => Cs wx g 18 (tuN 0 c1 c2 s1 s2) ∧ Cs wx (w.heap.size + 1) 18 (fun _ => 0) ∧ Fs wx (w.heap.size + 1) 18 ∧ Below w.heap.size w wx) ⟨cs_eq (N := up (up (up (up (up (up (up (up (unP) 8 (c1)) 9 (c2)) 10 (-s1)) 11 (s2)) 14 (s1)) 15 (s2)) 16 (c1)) 17 (c2)) (kc) (by apply cases18 <;> rfl), kc, kf, kg⟩ ?_; clear cU fU cR fR HBa cg fg; rintro wv ⟨cU, cR, fR, HBa⟩)
  all_goals go_step
  all_goals (refine load18 (.tmp 10) _ _ cU rfl rfl rfl ?_; refine store18 (.tmp 4) (.tmp 63) (w.heap.size + 1) (tuN 0 c1 c2 s1 s2) (fun _ => 0) cR fR rfl rfl rfl rfl ?_; intro wx cX fX sX bX; have HBx := bX w.heap.size w (by omega) HBa; clear cR fR HBa bX fX sX)
  all_goals go_wp2
  all_goals (refine bodyPost_ret (res_mat2 (v := .int .i64 0) Try.results18 rfl rfl cX) rfl ?_; exact ⟨rfl, HBx⟩)

set_option maxRecDepth 100000 in
set_option maxHeartbeats 6400000 in
theorem vec_turn_ok1 (n d : Int) (c1 c2 s1 s2 : Int) (CK : ∀ w : World, Calls Try.prog 58 #[.agg #[.int .i64 n, .int .i64 d]] w fun x w' => x = .returned (.int .i64 0) ∧ Below w.heap.size w w') (CI : ∀ w : World, Calls Try.prog 59 #[.agg #[.int .i64 n, .int .i64 d]] w fun x w' => x = .returned (.tuple #[.agg #[.int .i64 c1, .int .i64 c2], .agg #[.int .i64 s1, .int .i64 s2], .int .i64 0]) ∧ Below w.heap.size w w') (U : ∀ w : World, Calls Try.prog 60 #[] w fun x w' => x = .returned (.agg #[.int .i64 (unP 0), .int .i64 (unP 1), .int .i64 (unP 2), .int .i64 (unP 3), .int .i64 (unP 4), .int .i64 (unP 5), .int .i64 (unP 6), .int .i64 (unP 7), .int .i64 (unP 8), .int .i64 (unP 9), .int .i64 (unP 10), .int .i64 (unP 11), .int .i64 (unP 12), .int .i64 (unP 13), .int .i64 (unP 14), .int .i64 (unP 15), .int .i64 (unP 16), .int .i64 (unP 17)]) ∧ Below w.heap.size w w') (MI : ∀ w : World, Calls Try.prog 62 #[.agg #[.int .i64 s1, .int .i64 s2]] w fun x w' => x = .returned (.agg #[.int .i64 (-s1), .int .i64 s2]) ∧ Below w.heap.size w w') (AF0 : ∀ w : World, Calls Try.prog 61 #[.int .i64 0] w fun x w' => x = .returned (.tuple #[.int .i64 1, .int .i64 2]) ∧ Below w.heap.size w w') (AF1 : ∀ w : World, Calls Try.prog 61 #[.int .i64 1] w fun x w' => x = .returned (.tuple #[.int .i64 2, .int .i64 0]) ∧ Below w.heap.size w w') (AF2 : ∀ w : World, Calls Try.prog 61 #[.int .i64 2] w fun x w' => x = .returned (.tuple #[.int .i64 0, .int .i64 1]) ∧ Below w.heap.size w w') (w : World) :
    Calls Try.prog 18 #[.int .i64 1, .agg #[.int .i64 n, .int .i64 d]] w fun x w' => x = .returned (.tuple #[.agg #[.int .i64 ((tuN 1 c1 c2 s1 s2) 0), .int .i64 ((tuN 1 c1 c2 s1 s2) 1), .int .i64 ((tuN 1 c1 c2 s1 s2) 2), .int .i64 ((tuN 1 c1 c2 s1 s2) 3), .int .i64 ((tuN 1 c1 c2 s1 s2) 4), .int .i64 ((tuN 1 c1 c2 s1 s2) 5), .int .i64 ((tuN 1 c1 c2 s1 s2) 6), .int .i64 ((tuN 1 c1 c2 s1 s2) 7), .int .i64 ((tuN 1 c1 c2 s1 s2) 8), .int .i64 ((tuN 1 c1 c2 s1 s2) 9), .int .i64 ((tuN 1 c1 c2 s1 s2) 10), .int .i64 ((tuN 1 c1 c2 s1 s2) 11), .int .i64 ((tuN 1 c1 c2 s1 s2) 12), .int .i64 ((tuN 1 c1 c2 s1 s2) 13), .int .i64 ((tuN 1 c1 c2 s1 s2) 14), .int .i64 ((tuN 1 c1 c2 s1 s2) 15), .int .i64 ((tuN 1 c1 c2 s1 s2) 16), .int .i64 ((tuN 1 c1 c2 s1 s2) 17)], .int .i64 0]) ∧ Below w.heap.size w w' := by
  have xR := xRul
  have dz1 := dzA
  have dz2 := dzB
  go_enter Try.func18, Try.ntmps18
  go_upto_region 1 with fail
  refine opq (fun wx => wx.cell? ⟨w.heap.size, 0, none⟩ = some (.int .i64 n) ∧ wx.cell? ⟨w.heap.size, 1, none⟩ = some (.int .i64 d) ∧ Cs wx (w.heap.size + 1) 18 (fun _ => 0) ∧ Fs wx (w.heap.size + 1) 18 ∧ w.heap.size + 1 < wx.heap.size ∧ Below w.heap.size w wx) ?_ ?_
  · exact ⟨kk, kk, cs_new (by simp) arr0, fs_new (by simp), by simp, kb⟩
  rintro wz ⟨k0, k1, cR, fR, zs, HBa⟩
  go_wp2_with fail
  with_reducible refine (CK _).mono ?_
  rintro e w1 ⟨rfl, hb⟩
  replace k0 : w1.cell? ⟨w.heap.size, 0, none⟩ = some (.int .i64 n) := (hb.cell (show w.heap.size < wz.heap.size by omega)).trans k0
  replace k1 : w1.cell? ⟨w.heap.size, 1, none⟩ = some (.int .i64 d) := (hb.cell (show w.heap.size < wz.heap.size by omega)).trans k1
  replace cR := cs_below cR hb (by omega)
  replace fR := fs_below fR hb (by omega)
  replace HBa := HBa.trans (hb.mono (by omega))
  replace zs := Nat.lt_of_lt_of_le zs hb.size
  clear hb CK
  go_wp2_with fail
  with_reducible refine (CI _).mono ?_
  rintro e w2 ⟨rfl, hb⟩
  replace cR := cs_below cR hb (by omega)
  replace fR := fs_below fR hb (by omega)
  replace HBa := HBa.trans (hb.mono (by omega))
  replace zs := Nat.lt_of_lt_of_le zs hb.size
  clear hb CI k0 k1
  go_upto_region 9 with fail
  refine opq (fun wx => Cs wx (w.heap.size + 1) 18 (fun _ => 0) ∧ Fs wx (w.heap.size + 1) 18 ∧ wx.cell? ⟨w2.heap.size, 0, none⟩ = some (.int .i64 c1) ∧ wx.cell? ⟨w2.heap.size, 1, none⟩ = some (.int .i64 c2) ∧ wx.cell? ⟨w2.heap.size + 1, 0, none⟩ = some (.int .i64 s1) ∧ wx.cell? ⟨w2.heap.size + 1, 1, none⟩ = some (.int .i64 s2) ∧ w2.heap.size + 1 < wx.heap.size ∧ Below w.heap.size w wx) ?_ ?_
  · exact ⟨kc, kf, kk, kk, kk, kk, by simp [World.setCell], kg⟩
  clear cR fR HBa
  generalize hq : w2.heap.size = q
  have zq0 : w.heap.size + 1 < q := by omega
  clear hq zs
  rintro wy ⟨cR, fR, a0, a1, a2, a3, zs, HBa⟩
  go_step
  refine wpList_plain rfl (fun K hK => ?_)
  go_big_op
  with_reducible refine (U _).mono ?_
  rintro e w3 ⟨rfl, hb⟩
  simp only []
  refine hK _ _ ?_
  clear hK K
  replace a0 : w3.cell? ⟨q, 0, none⟩ = some (.int .i64 c1) := (hb.cell (show q < wy.heap.size by omega)).trans a0
  replace a1 : w3.cell? ⟨q, 1, none⟩ = some (.int .i64 c2) := (hb.cell (show q < wy.heap.size by omega)).trans a1
  replace a2 : w3.cell? ⟨q + 1, 0, none⟩ = some (.int .i64 s1) := (hb.cell (show q + 1 < wy.heap.size by omega)).trans a2
  replace a3 : w3.cell? ⟨q + 1, 1, none⟩ = some (.int .i64 s2) := (hb.cell (show q + 1 < wy.heap.size by omega)).trans a3
  replace cR := cs_below cR hb (by omega)
  replace fR := fs_below fR hb (by omega)
  replace HBa := HBa.trans (hb.mono (by omega))
  replace zs := Nat.lt_of_lt_of_le zs hb.size
  clear hb U
  refine wpList_plain rfl (fun K hK => ?_)
  go_big_op
  refine hK _ _ ?_
  clear hK K
  refine store18 (.tmp 10) (.tmp 36) w3.heap.size unP (fun _ => 0) (cs_new rfl arr0) (fs_new rfl) rfl rfl rfl rfl ?_
  intro wa cU fU sX bX
  have hb := bX w3.heap.size w3 (Nat.le_refl _) (bal (b0 _) _)
  have zg : w3.heap.size < wa.heap.size := by rw [sX]; simp
  have zqg : q + 1 < w3.heap.size := zs
  replace a0 : wa.cell? ⟨q, 0, none⟩ = some (.int .i64 c1) := (hb.cell (show q < w3.heap.size by omega)).trans a0
  replace a1 : wa.cell? ⟨q, 1, none⟩ = some (.int .i64 c2) := (hb.cell (show q < w3.heap.size by omega)).trans a1
  replace a2 : wa.cell? ⟨q + 1, 0, none⟩ = some (.int .i64 s1) := (hb.cell (show q + 1 < w3.heap.size by omega)).trans a2
  replace a3 : wa.cell? ⟨q + 1, 1, none⟩ = some (.int .i64 s2) := (hb.cell (show q + 1 < w3.heap.size by omega)).trans a3
  replace cR := cs_below cR hb (by omega)
  replace fR := fs_below fR hb (by omega)
  replace HBa := HBa.trans (hb.mono (by omega))
  replace zs := Nat.lt_of_lt_of_le zs hb.size
  clear hb bX sX
  generalize w3.heap.size = g at *
  go_wp2_with fail
  with_reducible refine (AF1 _).mono ?_
  rintro e w5 ⟨rfl, hb⟩
  replace cU := cs_below cU hb (by omega)
  replace fU := fs_below fU hb (by omega)
  replace zg := Nat.lt_of_lt_of_le zg hb.size
  replace a0 : w5.cell? ⟨q, 0, none⟩ = some (.int .i64 c1) := (hb.cell (show q < wa.heap.size by omega)).trans a0
  replace a1 : w5.cell? ⟨q, 1, none⟩ = some (.int .i64 c2) := (hb.cell (show q < wa.heap.size by omega)).trans a1
  replace a2 : w5.cell? ⟨q + 1, 0, none⟩ = some (.int .i64 s1) := (hb.cell (show q + 1 < wa.heap.size by omega)).trans a2
  replace a3 : w5.cell? ⟨q + 1, 1, none⟩ = some (.int .i64 s2) := (hb.cell (show q + 1 < wa.heap.size by omega)).trans a3
  replace cR := cs_below cR hb (by omega)
  replace fR := fs_below fR hb (by omega)
  replace HBa := HBa.trans (hb.mono (by omega))
  replace zs := Nat.lt_of_lt_of_le zs hb.size
  clear hb AF1
  have cg : ∀ o, o < 18 → w5.cell? ⟨g, o, none⟩ = some (.int .i64 (unP o)) := cU
  have fg : ∀ o, o < 18 → w5.frozen? ⟨g, o, none⟩ = false := fU
  have y1 : q < w5.heap.size := by omega
  have y2 : (g = q) = False := eq_false (by omega)
  have y3 : (g = q + 1) = False := eq_false (by omega)
  have y4 : (q = g) = False := eq_false (by omega)
  have y5 : (q + 1 = g) = False := eq_false (by omega)
  go_wp2_with fail
  go_region_held3 (fun w' => w'.cell? ⟨q, 0, none⟩ = some (.int .i64 c1) ∧ w'.cell? ⟨q, 1, none⟩ = some (.int .i64 c2) ∧ w'.cell? ⟨q + 1, 0, none⟩ = some (.int .i64 s1) ∧ w'.cell? ⟨q + 1, 1, none⟩ = some (.int .i64 s2)) (simp (maxDischargeDepth := 8) [go_sem, kp, *])
    ((go_at_call 62; with_reducible refine (MI _).mono ?_; rintro e w' ⟨rfl, hb⟩; obtain ⟨l9, d9, rfl⟩ := toExt hb; clear hb))
  all_goals (try go_wp2_with fail)
  all_goals go_region_held3 (fun w' => w'.cell? ⟨q, 0, none⟩ = some (.int .i64 c1) ∧ w'.cell? ⟨q, 1, none⟩ = some (.int .i64 c2) ∧ w'.cell? ⟨q + 1, 0, none⟩ = some (.int .i64 s1) ∧ w'.cell? ⟨q + 1, 1, none⟩ = some (.int .i64 s2)) (simp (maxDischargeDepth := 8) [go_sem, kp, *])
    (fail)
  all_goals go_upto_region 13 with fail
  all_goals (refine opq (fun wx => Cs wx g 18 (tuN 1 c1 c2 s1 s2) ∧ Cs wx (w.heap.size + 1) 18 (fun _ => 0) ∧ Fs wx (w.heap.size + 1) 18 ∧ Below w.heap.size w wx) ⟨cs_eq (N := up (up (up (up (up (up (up (up (unP) 16 (c1)) 17 (c2)) 12 (-s1)) 13 (s2)) 4 (s1)) 5 (s2)) 0 (c1)) 1 (c2)) (kc) (by apply cases18 <;> rfl), kc, kf, kg⟩ ?_; clear cU fU cR fR HBa cg fg; rintro wv ⟨cU, cR, fR, HBa⟩)
  all_goals go_step
  all_goals (refine load18 (.tmp 10) _ _ cU rfl rfl rfl ?_; refine store18 (.tmp 4) (.tmp 63) (w.heap.size + 1) (tuN 1 c1 c2 s1 s2) (fun _ => 0) cR fR rfl rfl rfl rfl ?_; intro wx cX fX sX bX; have HBx := bX w.heap.size w (by omega) HBa; clear cR fR HBa bX fX sX)
  all_goals go_wp2
  all_goals (refine bodyPost_ret (res_mat2 (v := .int .i64 0) Try.results18 rfl rfl cX) rfl ?_; exact ⟨rfl, HBx⟩)

set_option maxRecDepth 100000 in
set_option maxHeartbeats 6400000 in
theorem vec_turn_ok2 (n d : Int) (c1 c2 s1 s2 : Int) (CK : ∀ w : World, Calls Try.prog 58 #[.agg #[.int .i64 n, .int .i64 d]] w fun x w' => x = .returned (.int .i64 0) ∧ Below w.heap.size w w') (CI : ∀ w : World, Calls Try.prog 59 #[.agg #[.int .i64 n, .int .i64 d]] w fun x w' => x = .returned (.tuple #[.agg #[.int .i64 c1, .int .i64 c2], .agg #[.int .i64 s1, .int .i64 s2], .int .i64 0]) ∧ Below w.heap.size w w') (U : ∀ w : World, Calls Try.prog 60 #[] w fun x w' => x = .returned (.agg #[.int .i64 (unP 0), .int .i64 (unP 1), .int .i64 (unP 2), .int .i64 (unP 3), .int .i64 (unP 4), .int .i64 (unP 5), .int .i64 (unP 6), .int .i64 (unP 7), .int .i64 (unP 8), .int .i64 (unP 9), .int .i64 (unP 10), .int .i64 (unP 11), .int .i64 (unP 12), .int .i64 (unP 13), .int .i64 (unP 14), .int .i64 (unP 15), .int .i64 (unP 16), .int .i64 (unP 17)]) ∧ Below w.heap.size w w') (MI : ∀ w : World, Calls Try.prog 62 #[.agg #[.int .i64 s1, .int .i64 s2]] w fun x w' => x = .returned (.agg #[.int .i64 (-s1), .int .i64 s2]) ∧ Below w.heap.size w w') (AF0 : ∀ w : World, Calls Try.prog 61 #[.int .i64 0] w fun x w' => x = .returned (.tuple #[.int .i64 1, .int .i64 2]) ∧ Below w.heap.size w w') (AF1 : ∀ w : World, Calls Try.prog 61 #[.int .i64 1] w fun x w' => x = .returned (.tuple #[.int .i64 2, .int .i64 0]) ∧ Below w.heap.size w w') (AF2 : ∀ w : World, Calls Try.prog 61 #[.int .i64 2] w fun x w' => x = .returned (.tuple #[.int .i64 0, .int .i64 1]) ∧ Below w.heap.size w w') (w : World) :
    Calls Try.prog 18 #[.int .i64 2, .agg #[.int .i64 n, .int .i64 d]] w fun x w' => x = .returned (.tuple #[.agg #[.int .i64 ((tuN 2 c1 c2 s1 s2) 0), .int .i64 ((tuN 2 c1 c2 s1 s2) 1), .int .i64 ((tuN 2 c1 c2 s1 s2) 2), .int .i64 ((tuN 2 c1 c2 s1 s2) 3), .int .i64 ((tuN 2 c1 c2 s1 s2) 4), .int .i64 ((tuN 2 c1 c2 s1 s2) 5), .int .i64 ((tuN 2 c1 c2 s1 s2) 6), .int .i64 ((tuN 2 c1 c2 s1 s2) 7), .int .i64 ((tuN 2 c1 c2 s1 s2) 8), .int .i64 ((tuN 2 c1 c2 s1 s2) 9), .int .i64 ((tuN 2 c1 c2 s1 s2) 10), .int .i64 ((tuN 2 c1 c2 s1 s2) 11), .int .i64 ((tuN 2 c1 c2 s1 s2) 12), .int .i64 ((tuN 2 c1 c2 s1 s2) 13), .int .i64 ((tuN 2 c1 c2 s1 s2) 14), .int .i64 ((tuN 2 c1 c2 s1 s2) 15), .int .i64 ((tuN 2 c1 c2 s1 s2) 16), .int .i64 ((tuN 2 c1 c2 s1 s2) 17)], .int .i64 0]) ∧ Below w.heap.size w w' := by
  have xR := xRul
  have dz1 := dzA
  have dz2 := dzB
  go_enter Try.func18, Try.ntmps18
  go_upto_region 1 with fail
  refine opq (fun wx => wx.cell? ⟨w.heap.size, 0, none⟩ = some (.int .i64 n) ∧ wx.cell? ⟨w.heap.size, 1, none⟩ = some (.int .i64 d) ∧ Cs wx (w.heap.size + 1) 18 (fun _ => 0) ∧ Fs wx (w.heap.size + 1) 18 ∧ w.heap.size + 1 < wx.heap.size ∧ Below w.heap.size w wx) ?_ ?_
  · exact ⟨kk, kk, cs_new (by simp) arr0, fs_new (by simp), by simp, kb⟩
  rintro wz ⟨k0, k1, cR, fR, zs, HBa⟩
  go_wp2_with fail
  with_reducible refine (CK _).mono ?_
  rintro e w1 ⟨rfl, hb⟩
  replace k0 : w1.cell? ⟨w.heap.size, 0, none⟩ = some (.int .i64 n) := (hb.cell (show w.heap.size < wz.heap.size by omega)).trans k0
  replace k1 : w1.cell? ⟨w.heap.size, 1, none⟩ = some (.int .i64 d) := (hb.cell (show w.heap.size < wz.heap.size by omega)).trans k1
  replace cR := cs_below cR hb (by omega)
  replace fR := fs_below fR hb (by omega)
  replace HBa := HBa.trans (hb.mono (by omega))
  replace zs := Nat.lt_of_lt_of_le zs hb.size
  clear hb CK
  go_wp2_with fail
  with_reducible refine (CI _).mono ?_
  rintro e w2 ⟨rfl, hb⟩
  replace cR := cs_below cR hb (by omega)
  replace fR := fs_below fR hb (by omega)
  replace HBa := HBa.trans (hb.mono (by omega))
  replace zs := Nat.lt_of_lt_of_le zs hb.size
  clear hb CI k0 k1
  go_upto_region 9 with fail
  refine opq (fun wx => Cs wx (w.heap.size + 1) 18 (fun _ => 0) ∧ Fs wx (w.heap.size + 1) 18 ∧ wx.cell? ⟨w2.heap.size, 0, none⟩ = some (.int .i64 c1) ∧ wx.cell? ⟨w2.heap.size, 1, none⟩ = some (.int .i64 c2) ∧ wx.cell? ⟨w2.heap.size + 1, 0, none⟩ = some (.int .i64 s1) ∧ wx.cell? ⟨w2.heap.size + 1, 1, none⟩ = some (.int .i64 s2) ∧ w2.heap.size + 1 < wx.heap.size ∧ Below w.heap.size w wx) ?_ ?_
  · exact ⟨kc, kf, kk, kk, kk, kk, by simp [World.setCell], kg⟩
  clear cR fR HBa
  generalize hq : w2.heap.size = q
  have zq0 : w.heap.size + 1 < q := by omega
  clear hq zs
  rintro wy ⟨cR, fR, a0, a1, a2, a3, zs, HBa⟩
  go_step
  refine wpList_plain rfl (fun K hK => ?_)
  go_big_op
  with_reducible refine (U _).mono ?_
  rintro e w3 ⟨rfl, hb⟩
  simp only []
  refine hK _ _ ?_
  clear hK K
  replace a0 : w3.cell? ⟨q, 0, none⟩ = some (.int .i64 c1) := (hb.cell (show q < wy.heap.size by omega)).trans a0
  replace a1 : w3.cell? ⟨q, 1, none⟩ = some (.int .i64 c2) := (hb.cell (show q < wy.heap.size by omega)).trans a1
  replace a2 : w3.cell? ⟨q + 1, 0, none⟩ = some (.int .i64 s1) := (hb.cell (show q + 1 < wy.heap.size by omega)).trans a2
  replace a3 : w3.cell? ⟨q + 1, 1, none⟩ = some (.int .i64 s2) := (hb.cell (show q + 1 < wy.heap.size by omega)).trans a3
  replace cR := cs_below cR hb (by omega)
  replace fR := fs_below fR hb (by omega)
  replace HBa := HBa.trans (hb.mono (by omega))
  replace zs := Nat.lt_of_lt_of_le zs hb.size
  clear hb U
  refine wpList_plain rfl (fun K hK => ?_)
  go_big_op
  refine hK _ _ ?_
  clear hK K
  refine store18 (.tmp 10) (.tmp 36) w3.heap.size unP (fun _ => 0) (cs_new rfl arr0) (fs_new rfl) rfl rfl rfl rfl ?_
  intro wa cU fU sX bX
  have hb := bX w3.heap.size w3 (Nat.le_refl _) (bal (b0 _) _)
  have zg : w3.heap.size < wa.heap.size := by rw [sX]; simp
  have zqg : q + 1 < w3.heap.size := zs
  replace a0 : wa.cell? ⟨q, 0, none⟩ = some (.int .i64 c1) := (hb.cell (show q < w3.heap.size by omega)).trans a0
  replace a1 : wa.cell? ⟨q, 1, none⟩ = some (.int .i64 c2) := (hb.cell (show q < w3.heap.size by omega)).trans a1
  replace a2 : wa.cell? ⟨q + 1, 0, none⟩ = some (.int .i64 s1) := (hb.cell (show q + 1 < w3.heap.size by omega)).trans a2
  replace a3 : wa.cell? ⟨q + 1, 1, none⟩ = some (.int .i64 s2) := (hb.cell (show q + 1 < w3.heap.size by omega)).trans a3
  replace cR := cs_below cR hb (by omega)
  replace fR := fs_below fR hb (by omega)
  replace HBa := HBa.trans (hb.mono (by omega))
  replace zs := Nat.lt_of_lt_of_le zs hb.size
  clear hb bX sX
  generalize w3.heap.size = g at *
  go_wp2_with fail
  with_reducible refine (AF2 _).mono ?_
  rintro e w5 ⟨rfl, hb⟩
  replace cU := cs_below cU hb (by omega)
  replace fU := fs_below fU hb (by omega)
  replace zg := Nat.lt_of_lt_of_le zg hb.size
  replace a0 : w5.cell? ⟨q, 0, none⟩ = some (.int .i64 c1) := (hb.cell (show q < wa.heap.size by omega)).trans a0
  replace a1 : w5.cell? ⟨q, 1, none⟩ = some (.int .i64 c2) := (hb.cell (show q < wa.heap.size by omega)).trans a1
  replace a2 : w5.cell? ⟨q + 1, 0, none⟩ = some (.int .i64 s1) := (hb.cell (show q + 1 < wa.heap.size by omega)).trans a2
  replace a3 : w5.cell? ⟨q + 1, 1, none⟩ = some (.int .i64 s2) := (hb.cell (show q + 1 < wa.heap.size by omega)).trans a3
  replace cR := cs_below cR hb (by omega)
  replace fR := fs_below fR hb (by omega)
  replace HBa := HBa.trans (hb.mono (by omega))
  replace zs := Nat.lt_of_lt_of_le zs hb.size
  clear hb AF2
  have cg : ∀ o, o < 18 → w5.cell? ⟨g, o, none⟩ = some (.int .i64 (unP o)) := cU
  have fg : ∀ o, o < 18 → w5.frozen? ⟨g, o, none⟩ = false := fU
  have y1 : q < w5.heap.size := by omega
  have y2 : (g = q) = False := eq_false (by omega)
  have y3 : (g = q + 1) = False := eq_false (by omega)
  have y4 : (q = g) = False := eq_false (by omega)
  have y5 : (q + 1 = g) = False := eq_false (by omega)
  go_wp2_with fail
  go_region_held3 (fun w' => w'.cell? ⟨q, 0, none⟩ = some (.int .i64 c1) ∧ w'.cell? ⟨q, 1, none⟩ = some (.int .i64 c2) ∧ w'.cell? ⟨q + 1, 0, none⟩ = some (.int .i64 s1) ∧ w'.cell? ⟨q + 1, 1, none⟩ = some (.int .i64 s2)) (simp (maxDischargeDepth := 8) [go_sem, kp, *])
    ((go_at_call 62; with_reducible refine (MI _).mono ?_; rintro e w' ⟨rfl, hb⟩; obtain ⟨l9, d9, rfl⟩ := toExt hb; clear hb))
  all_goals (try go_wp2_with fail)
  all_goals go_region_held3 (fun w' => w'.cell? ⟨q, 0, none⟩ = some (.int .i64 c1) ∧ w'.cell? ⟨q, 1, none⟩ = some (.int .i64 c2) ∧ w'.cell? ⟨q + 1, 0, none⟩ = some (.int .i64 s1) ∧ w'.cell? ⟨q + 1, 1, none⟩ = some (.int .i64 s2)) (simp (maxDischargeDepth := 8) [go_sem, kp, *])
    (fail)
  all_goals go_upto_region 13 with fail
  all_goals (refine opq (fun wx => Cs wx g 18 (tuN 2 c1 c2 s1 s2) ∧ Cs wx (w.heap.size + 1) 18 (fun _ => 0) ∧ Fs wx (w.heap.size + 1) 18 ∧ Below w.heap.size w wx) ⟨cs_eq (N := up (up (up (up (up (up (up (up (unP) 0 (c1)) 1 (c2)) 2 (-s1)) 3 (s2)) 6 (s1)) 7 (s2)) 8 (c1)) 9 (c2)) (kc) (by apply cases18 <;> rfl), kc, kf, kg⟩ ?_; clear cU fU cR fR HBa cg fg; rintro wv ⟨cU, cR, fR, HBa⟩)
  all_goals go_step
  all_goals (refine load18 (.tmp 10) _ _ cU rfl rfl rfl ?_; refine store18 (.tmp 4) (.tmp 63) (w.heap.size + 1) (tuN 2 c1 c2 s1 s2) (fun _ => 0) cR fR rfl rfl rfl rfl ?_; intro wx cX fX sX bX; have HBx := bX w.heap.size w (by omega) HBa; clear cR fR HBa bX fX sX)
  all_goals go_wp2
  all_goals (refine bodyPost_ret (res_mat2 (v := .int .i64 0) Try.results18 rfl rfl cX) rfl ?_; exact ⟨rfl, HBx⟩)

end Go.Proofs.Ytdolfdmgdknboaa
