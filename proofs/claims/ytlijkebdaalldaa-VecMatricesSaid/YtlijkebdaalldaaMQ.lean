/-
  The reference where a matrix or the vector is not valid.  Vectors: opposite ones of the reference.  Vectors: dot products and cross products of the reference.
-/
import Derived.Test.YtlijkebdaalldaaKu
import Derived.Test.YtlijkebdaalldaaMA
import Derived.Test.YtlijkebdaalldaaMB
import Derived.Test.YtlijkebdaalldaaMJ
import Derived.Test.YtlijkebdaalldaaFyz
import Derived.Test.YtlijkebdaalldaaFxq
import Derived.Deep.RegionHeld3
namespace Go.Proofs.Ytlijkebdaalldaa
open Go.RowKit
set_option linter.unusedVariables false
set_option linter.unusedSimpArgs false

theorem arr02' : ∀ o, o < 2 → (#[.int .i64 0, .int .i64 0] : Array Value)[o]? = some (.int .i64 ((fun _ => (0 : Int)) o)) := by
  intro o ho
  rcases (show o = 0 ∨ o = 1 by omega) with rfl | rfl <;> rfl

set_option maxRecDepth 100000 in
set_option maxHeartbeats 3200000 in
theorem ref2_apply_badM (M V : Nat → Int) (VA : ∀ w : World, Calls Try.prog 51 #[.agg #[.int .i64 (M 0), .int .i64 (M 1), .int .i64 (M 2), .int .i64 (M 3), .int .i64 (M 4), .int .i64 (M 5), .int .i64 (M 6), .int .i64 (M 7), .int .i64 (M 8), .int .i64 (M 9), .int .i64 (M 10), .int .i64 (M 11), .int .i64 (M 12), .int .i64 (M 13), .int .i64 (M 14), .int .i64 (M 15), .int .i64 (M 16), .int .i64 (M 17)]] w fun x w' => x = .returned (.int .i64 8) ∧ Below w.heap.size w w') (w : World) :
    Calls Try.prog 23 #[.agg #[.int .i64 (M 0), .int .i64 (M 1), .int .i64 (M 2), .int .i64 (M 3), .int .i64 (M 4), .int .i64 (M 5), .int .i64 (M 6), .int .i64 (M 7), .int .i64 (M 8), .int .i64 (M 9), .int .i64 (M 10), .int .i64 (M 11), .int .i64 (M 12), .int .i64 (M 13), .int .i64 (M 14), .int .i64 (M 15), .int .i64 (M 16), .int .i64 (M 17)], .agg #[.int .i64 (V 0), .int .i64 (V 1), .int .i64 (V 2), .int .i64 (V 3), .int .i64 (V 4), .int .i64 (V 5)]] w fun x w' => x = .returned (.tuple #[.agg #[.int .i64 0, .int .i64 0, .int .i64 0, .int .i64 0, .int .i64 0, .int .i64 0], .int .i64 8]) ∧ Below w.heap.size w w' := by
  have xR := xRul
  have dz1 := dzA
  have dz2 := dzB
  go_enter Try.func23, Try.ntmps23
  go_upto_region 1 with fail
  refine opq (fun wx => Cs wx (w.heap.size) 18 M ∧ Cs wx (w.heap.size + 1) 6 V ∧ Cs wx (w.heap.size + 1 + 1) 6 (fun _ => 0) ∧ Fs wx (w.heap.size + 1 + 1) 6 ∧ w.heap.size + 1 + 1 < wx.heap.size ∧ Below w.heap.size w wx) ?_ ?_
  · exact ⟨cs_alloc _ (cs_alloc _ (cs_new rfl (arrM M)) (by simp)) (by simp <;> omega), cs_alloc _ (cs_new (by simp) (arrV V)) (by simp), cs_new (by simp) arr06, fs_new (by simp), by simp, kb⟩
  rintro wz ⟨cM, cN, cR, fR, zs, HBa⟩
  go_step
  refine load18 (.tmp 2) _ M cM rfl rfl rfl ?_
  go_wp2_with fail
  with_reducible refine (VA _).mono ?_
  rintro e w1 ⟨rfl, hb⟩
  replace cR := cs_below cR hb (by omega)
  replace fR := fs_below fR hb (by omega)
  replace HBa := HBa.trans (hb.mono (by omega))
  replace zs := Nat.lt_of_lt_of_le zs hb.size
  clear hb
  clear VA cM cN
  have hR : ∀ o, o < 6 → w1.cell? ⟨w.heap.size + 1 + 1, o, none⟩ = some (.int .i64 0) := cR
  have hF : ∀ o, o < 6 → w1.frozen? ⟨w.heap.size + 1 + 1, o, none⟩ = false := fR
  go_wp2
  refine bodyPost_ret (by simp [results, Try.results23, go_sem, ext_cell, kp, *]; try rfl) rfl ?_
  exact ⟨rfl, kb⟩

set_option maxRecDepth 100000 in
set_option maxHeartbeats 3200000 in
theorem ref2_apply_badV (M V : Nat → Int) (VA : ∀ w : World, Calls Try.prog 51 #[.agg #[.int .i64 (M 0), .int .i64 (M 1), .int .i64 (M 2), .int .i64 (M 3), .int .i64 (M 4), .int .i64 (M 5), .int .i64 (M 6), .int .i64 (M 7), .int .i64 (M 8), .int .i64 (M 9), .int .i64 (M 10), .int .i64 (M 11), .int .i64 (M 12), .int .i64 (M 13), .int .i64 (M 14), .int .i64 (M 15), .int .i64 (M 16), .int .i64 (M 17)]] w fun x w' => x = .returned (.int .i64 0) ∧ Below w.heap.size w w') (CV : ∀ w : World, Calls Try.prog 52 #[.agg #[.int .i64 (V 0), .int .i64 (V 1), .int .i64 (V 2), .int .i64 (V 3), .int .i64 (V 4), .int .i64 (V 5)]] w fun x w' => x = .returned (.int .i64 8) ∧ Below w.heap.size w w') (w : World) :
    Calls Try.prog 23 #[.agg #[.int .i64 (M 0), .int .i64 (M 1), .int .i64 (M 2), .int .i64 (M 3), .int .i64 (M 4), .int .i64 (M 5), .int .i64 (M 6), .int .i64 (M 7), .int .i64 (M 8), .int .i64 (M 9), .int .i64 (M 10), .int .i64 (M 11), .int .i64 (M 12), .int .i64 (M 13), .int .i64 (M 14), .int .i64 (M 15), .int .i64 (M 16), .int .i64 (M 17)], .agg #[.int .i64 (V 0), .int .i64 (V 1), .int .i64 (V 2), .int .i64 (V 3), .int .i64 (V 4), .int .i64 (V 5)]] w fun x w' => x = .returned (.tuple #[.agg #[.int .i64 0, .int .i64 0, .int .i64 0, .int .i64 0, .int .i64 0, .int .i64 0], .int .i64 8]) ∧ Below w.heap.size w w' := by
  have xR := xRul
  have dz1 := dzA
  have dz2 := dzB
  go_enter Try.func23, Try.ntmps23
  go_upto_region 1 with fail
  refine opq (fun wx => Cs wx (w.heap.size) 18 M ∧ Cs wx (w.heap.size + 1) 6 V ∧ Cs wx (w.heap.size + 1 + 1) 6 (fun _ => 0) ∧ Fs wx (w.heap.size + 1 + 1) 6 ∧ w.heap.size + 1 + 1 < wx.heap.size ∧ Below w.heap.size w wx) ?_ ?_
  · exact ⟨cs_alloc _ (cs_alloc _ (cs_new rfl (arrM M)) (by simp)) (by simp <;> omega), cs_alloc _ (cs_new (by simp) (arrV V)) (by simp), cs_new (by simp) arr06, fs_new (by simp), by simp, kb⟩
  rintro wz ⟨cM, cN, cR, fR, zs, HBa⟩
  go_step
  refine load18 (.tmp 2) _ M cM rfl rfl rfl ?_
  go_wp2_with fail
  with_reducible refine (VA _).mono ?_
  rintro e w1 ⟨rfl, hb⟩
  replace cN := cs_below cN hb (by omega)
  replace cR := cs_below cR hb (by omega)
  replace fR := fs_below fR hb (by omega)
  replace HBa := HBa.trans (hb.mono (by omega))
  replace zs := Nat.lt_of_lt_of_le zs hb.size
  clear hb
  clear VA cM
  have hV : ∀ o, o < 6 → w1.cell? ⟨w.heap.size + 1, o, none⟩ = some (.int .i64 (V o)) := cN
  go_wp2_with fail
  with_reducible refine (CV _).mono ?_
  rintro e w2 ⟨rfl, hb⟩
  replace cR := cs_below cR hb (by omega)
  replace fR := fs_below fR hb (by omega)
  replace HBa := HBa.trans (hb.mono (by omega))
  replace zs := Nat.lt_of_lt_of_le zs hb.size
  clear hb
  clear CV cN hV
  have hR : ∀ o, o < 6 → w2.cell? ⟨w.heap.size + 1 + 1, o, none⟩ = some (.int .i64 0) := cR
  have hF : ∀ o, o < 6 → w2.frozen? ⟨w.heap.size + 1 + 1, o, none⟩ = false := fR
  go_wp2
  refine bodyPost_ret (by simp [results, Try.results23, go_sem, ext_cell, kp, *]; try rfl) rfl ?_
  exact ⟨rfl, kb⟩

set_option maxRecDepth 100000 in
set_option maxHeartbeats 3200000 in
theorem ref2_prod_badM (M N : Nat → Int) (VA : ∀ w : World, Calls Try.prog 51 #[.agg #[.int .i64 (M 0), .int .i64 (M 1), .int .i64 (M 2), .int .i64 (M 3), .int .i64 (M 4), .int .i64 (M 5), .int .i64 (M 6), .int .i64 (M 7), .int .i64 (M 8), .int .i64 (M 9), .int .i64 (M 10), .int .i64 (M 11), .int .i64 (M 12), .int .i64 (M 13), .int .i64 (M 14), .int .i64 (M 15), .int .i64 (M 16), .int .i64 (M 17)]] w fun x w' => x = .returned (.int .i64 8) ∧ Below w.heap.size w w') (w : World) :
    Calls Try.prog 24 #[.agg #[.int .i64 (M 0), .int .i64 (M 1), .int .i64 (M 2), .int .i64 (M 3), .int .i64 (M 4), .int .i64 (M 5), .int .i64 (M 6), .int .i64 (M 7), .int .i64 (M 8), .int .i64 (M 9), .int .i64 (M 10), .int .i64 (M 11), .int .i64 (M 12), .int .i64 (M 13), .int .i64 (M 14), .int .i64 (M 15), .int .i64 (M 16), .int .i64 (M 17)], .agg #[.int .i64 (N 0), .int .i64 (N 1), .int .i64 (N 2), .int .i64 (N 3), .int .i64 (N 4), .int .i64 (N 5), .int .i64 (N 6), .int .i64 (N 7), .int .i64 (N 8), .int .i64 (N 9), .int .i64 (N 10), .int .i64 (N 11), .int .i64 (N 12), .int .i64 (N 13), .int .i64 (N 14), .int .i64 (N 15), .int .i64 (N 16), .int .i64 (N 17)]] w fun x w' => x = .returned (.tuple #[.agg #[.int .i64 ((fun _ => 0) 0), .int .i64 ((fun _ => 0) 1), .int .i64 ((fun _ => 0) 2), .int .i64 ((fun _ => 0) 3), .int .i64 ((fun _ => 0) 4), .int .i64 ((fun _ => 0) 5), .int .i64 ((fun _ => 0) 6), .int .i64 ((fun _ => 0) 7), .int .i64 ((fun _ => 0) 8), .int .i64 ((fun _ => 0) 9), .int .i64 ((fun _ => 0) 10), .int .i64 ((fun _ => 0) 11), .int .i64 ((fun _ => 0) 12), .int .i64 ((fun _ => 0) 13), .int .i64 ((fun _ => 0) 14), .int .i64 ((fun _ => 0) 15), .int .i64 ((fun _ => 0) 16), .int .i64 ((fun _ => 0) 17)], .int .i64 8]) ∧ Below w.heap.size w w' := by
  have xR := xRul
  have dz1 := dzA
  have dz2 := dzB
  go_enter Try.func24, Try.ntmps24
  go_upto_region 1 with fail
  refine opq (fun wx => Cs wx (w.heap.size) 18 M ∧ Cs wx (w.heap.size + 1) 18 N ∧ Cs wx (w.heap.size + 1 + 1) 18 (fun _ => 0) ∧ Fs wx (w.heap.size + 1 + 1) 18 ∧ w.heap.size + 1 + 1 < wx.heap.size ∧ Below w.heap.size w wx) ?_ ?_
  · exact ⟨cs_alloc _ (cs_alloc _ (cs_new rfl (arrM M)) (by simp)) (by simp <;> omega), cs_alloc _ (cs_new (by simp) (arrM N)) (by simp), cs_new (by simp) arr0, fs_new (by simp), by simp, kb⟩
  rintro wz ⟨cM, cN, cR, fR, zs, HBa⟩
  go_step
  refine load18 (.tmp 2) _ M cM rfl rfl rfl ?_
  go_wp2_with fail
  with_reducible refine (VA _).mono ?_
  rintro e w1 ⟨rfl, hb⟩
  replace cR := cs_below cR hb (by omega)
  replace fR := fs_below fR hb (by omega)
  replace HBa := HBa.trans (hb.mono (by omega))
  replace zs := Nat.lt_of_lt_of_le zs hb.size
  clear hb
  clear VA cM cN
  go_upto_region 2 with fail
  go_step
  refine wpList_plain rfl (fun K hK => ?_)
  go_big_op
  refine hK _ _ ?_
  clear hK K
  refine store18 (.tmp 4) (.tmp 19) (w.heap.size + 1 + 1) (fun _ => 0) (fun _ => 0) cR fR rfl rfl rfl rfl ?_
  intro wx cX fX sX bX
  have HBx := bX w.heap.size w (by omega) HBa
  clear cR fR HBa bX fX sX
  go_wp2
  refine bodyPost_ret (res_mat2 (v := .int .i64 8) Try.results24 rfl rfl cX) rfl ?_
  exact ⟨rfl, HBx⟩

set_option maxRecDepth 100000 in
set_option maxHeartbeats 3200000 in
theorem ref2_prod_badN (M N : Nat → Int) (VA : ∀ w : World, Calls Try.prog 51 #[.agg #[.int .i64 (M 0), .int .i64 (M 1), .int .i64 (M 2), .int .i64 (M 3), .int .i64 (M 4), .int .i64 (M 5), .int .i64 (M 6), .int .i64 (M 7), .int .i64 (M 8), .int .i64 (M 9), .int .i64 (M 10), .int .i64 (M 11), .int .i64 (M 12), .int .i64 (M 13), .int .i64 (M 14), .int .i64 (M 15), .int .i64 (M 16), .int .i64 (M 17)]] w fun x w' => x = .returned (.int .i64 0) ∧ Below w.heap.size w w') (VB : ∀ w : World, Calls Try.prog 51 #[.agg #[.int .i64 (N 0), .int .i64 (N 1), .int .i64 (N 2), .int .i64 (N 3), .int .i64 (N 4), .int .i64 (N 5), .int .i64 (N 6), .int .i64 (N 7), .int .i64 (N 8), .int .i64 (N 9), .int .i64 (N 10), .int .i64 (N 11), .int .i64 (N 12), .int .i64 (N 13), .int .i64 (N 14), .int .i64 (N 15), .int .i64 (N 16), .int .i64 (N 17)]] w fun x w' => x = .returned (.int .i64 8) ∧ Below w.heap.size w w') (w : World) :
    Calls Try.prog 24 #[.agg #[.int .i64 (M 0), .int .i64 (M 1), .int .i64 (M 2), .int .i64 (M 3), .int .i64 (M 4), .int .i64 (M 5), .int .i64 (M 6), .int .i64 (M 7), .int .i64 (M 8), .int .i64 (M 9), .int .i64 (M 10), .int .i64 (M 11), .int .i64 (M 12), .int .i64 (M 13), .int .i64 (M 14), .int .i64 (M 15), .int .i64 (M 16), .int .i64 (M 17)], .agg #[.int .i64 (N 0), .int .i64 (N 1), .int .i64 (N 2), .int .i64 (N 3), .int .i64 (N 4), .int .i64 (N 5), .int .i64 (N 6), .int .i64 (N 7), .int .i64 (N 8), .int .i64 (N 9), .int .i64 (N 10), .int .i64 (N 11), .int .i64 (N 12), .int .i64 (N 13), .int .i64 (N 14), .int .i64 (N 15), .int .i64 (N 16), .int .i64 (N 17)]] w fun x w' => x = .returned (.tuple #[.agg #[.int .i64 ((fun _ => 0) 0), .int .i64 ((fun _ => 0) 1), .int .i64 ((fun _ => 0) 2), .int .i64 ((fun _ => 0) 3), .int .i64 ((fun _ => 0) 4), .int .i64 ((fun _ => 0) 5), .int .i64 ((fun _ => 0) 6), .int .i64 ((fun _ => 0) 7), .int .i64 ((fun _ => 0) 8), .int .i64 ((fun _ => 0) 9), .int .i64 ((fun _ => 0) 10), .int .i64 ((fun _ => 0) 11), .int .i64 ((fun _ => 0) 12), .int .i64 ((fun _ => 0) 13), .int .i64 ((fun _ => 0) 14), .int .i64 ((fun _ => 0) 15), .int .i64 ((fun _ => 0) 16), .int .i64 ((fun _ => 0) 17)], .int .i64 8]) ∧ Below w.heap.size w w' := by
  have xR := xRul
  have dz1 := dzA
  have dz2 := dzB
  go_enter Try.func24, Try.ntmps24
  go_upto_region 1 with fail
  refine opq (fun wx => Cs wx (w.heap.size) 18 M ∧ Cs wx (w.heap.size + 1) 18 N ∧ Cs wx (w.heap.size + 1 + 1) 18 (fun _ => 0) ∧ Fs wx (w.heap.size + 1 + 1) 18 ∧ w.heap.size + 1 + 1 < wx.heap.size ∧ Below w.heap.size w wx) ?_ ?_
  · exact ⟨cs_alloc _ (cs_alloc _ (cs_new rfl (arrM M)) (by simp)) (by simp <;> omega), cs_alloc _ (cs_new (by simp) (arrM N)) (by simp), cs_new (by simp) arr0, fs_new (by simp), by simp, kb⟩
  rintro wz ⟨cM, cN, cR, fR, zs, HBa⟩
  go_step
  refine load18 (.tmp 2) _ M cM rfl rfl rfl ?_
  simp only [putA]
  refine wpList_plain rfl (fun K hK => ?_)
  go_big_op
  with_reducible refine (VA _).mono ?_
  rintro e w1 ⟨rfl, hb⟩
  simp only []
  refine hK _ _ ?_
  clear hK K
  replace cN := cs_below cN hb (by omega)
  replace cR := cs_below cR hb (by omega)
  replace fR := fs_below fR hb (by omega)
  replace HBa := HBa.trans (hb.mono (by omega))
  replace zs := Nat.lt_of_lt_of_le zs hb.size
  clear hb VA
  refine wpList_plain rfl (fun K hK => ?_)
  go_big_op
  refine hK _ _ ?_
  clear hK K
  refine wpList_plain rfl (fun K hK => ?_)
  go_big_op
  refine hK _ _ ?_
  clear hK K
  refine load18g (.tmp 3) _ N cN (by kernel_rfl) rfl rfl ?_
  go_wp2_with fail
  with_reducible refine (VB _).mono ?_
  rintro e w2 ⟨rfl, hb⟩
  replace cR := cs_below cR hb (by omega)
  replace fR := fs_below fR hb (by omega)
  replace HBa := HBa.trans (hb.mono (by omega))
  replace zs := Nat.lt_of_lt_of_le zs hb.size
  clear hb
  clear VB cN
  go_upto_region 2 with fail
  go_step
  refine wpList_plain rfl (fun K hK => ?_)
  go_big_op
  refine hK _ _ ?_
  clear hK K
  refine store18 (.tmp 4) (.tmp 19) (w.heap.size + 1 + 1) (fun _ => 0) (fun _ => 0) cR fR rfl rfl rfl rfl ?_
  intro wx cX fX sX bX
  have HBx := bX w.heap.size w (by omega) HBa
  clear cR fR HBa bX fX sX
  go_wp2
  refine bodyPost_ret (res_mat2 (v := .int .i64 8) Try.results24 rfl rfl cX) rfl ?_
  exact ⟨rfl, HBx⟩

set_option maxRecDepth 100000 in
set_option maxHeartbeats 3200000 in
theorem ref2_flip_bad (M : Nat → Int) (VA : ∀ w : World, Calls Try.prog 51 #[.agg #[.int .i64 (M 0), .int .i64 (M 1), .int .i64 (M 2), .int .i64 (M 3), .int .i64 (M 4), .int .i64 (M 5), .int .i64 (M 6), .int .i64 (M 7), .int .i64 (M 8), .int .i64 (M 9), .int .i64 (M 10), .int .i64 (M 11), .int .i64 (M 12), .int .i64 (M 13), .int .i64 (M 14), .int .i64 (M 15), .int .i64 (M 16), .int .i64 (M 17)]] w fun x w' => x = .returned (.int .i64 8) ∧ Below w.heap.size w w') (w : World) :
    Calls Try.prog 25 #[.agg #[.int .i64 (M 0), .int .i64 (M 1), .int .i64 (M 2), .int .i64 (M 3), .int .i64 (M 4), .int .i64 (M 5), .int .i64 (M 6), .int .i64 (M 7), .int .i64 (M 8), .int .i64 (M 9), .int .i64 (M 10), .int .i64 (M 11), .int .i64 (M 12), .int .i64 (M 13), .int .i64 (M 14), .int .i64 (M 15), .int .i64 (M 16), .int .i64 (M 17)]] w fun x w' => x = .returned (.tuple #[.agg #[.int .i64 ((fun _ => 0) 0), .int .i64 ((fun _ => 0) 1), .int .i64 ((fun _ => 0) 2), .int .i64 ((fun _ => 0) 3), .int .i64 ((fun _ => 0) 4), .int .i64 ((fun _ => 0) 5), .int .i64 ((fun _ => 0) 6), .int .i64 ((fun _ => 0) 7), .int .i64 ((fun _ => 0) 8), .int .i64 ((fun _ => 0) 9), .int .i64 ((fun _ => 0) 10), .int .i64 ((fun _ => 0) 11), .int .i64 ((fun _ => 0) 12), .int .i64 ((fun _ => 0) 13), .int .i64 ((fun _ => 0) 14), .int .i64 ((fun _ => 0) 15), .int .i64 ((fun _ => 0) 16), .int .i64 ((fun _ => 0) 17)], .int .i64 8]) ∧ Below w.heap.size w w' := by
  have xR := xRul
  have dz1 := dzA
  have dz2 := dzB
  go_enter Try.func25, Try.ntmps25
  go_upto_region 1 with fail
  refine opq (fun wx => Cs wx (w.heap.size) 18 M ∧ Cs wx (w.heap.size + 1) 18 (fun _ => 0) ∧ Fs wx (w.heap.size + 1) 18 ∧ w.heap.size + 1 < wx.heap.size ∧ Below w.heap.size w wx) ?_ ?_
  · exact ⟨cs_alloc _ (cs_new rfl (arrM M)) (by simp), cs_new (by simp) arr0, fs_new (by simp), by simp, kb⟩
  rintro wz ⟨cM, cR, fR, zs, HBa⟩
  go_step
  refine load18 (.tmp 1) _ M cM rfl rfl rfl ?_
  go_wp2_with fail
  with_reducible refine (VA _).mono ?_
  rintro e w1 ⟨rfl, hb⟩
  replace cR := cs_below cR hb (by omega)
  replace fR := fs_below fR hb (by omega)
  replace HBa := HBa.trans (hb.mono (by omega))
  replace zs := Nat.lt_of_lt_of_le zs hb.size
  clear hb
  clear VA cM
  go_upto_region 2 with fail
  go_step
  refine wpList_plain rfl (fun K hK => ?_)
  go_big_op
  refine hK _ _ ?_
  clear hK K
  refine store18 (.tmp 2) (.tmp 10) (w.heap.size + 1) (fun _ => 0) (fun _ => 0) cR fR rfl rfl rfl rfl ?_
  intro wx cX fX sX bX
  have HBx := bX w.heap.size w (by omega) HBa
  clear cR fR HBa bX fX sX
  go_wp2
  refine bodyPost_ret (res_mat2 (v := .int .i64 8) Try.results25 rfl rfl cX) rfl ?_
  exact ⟨rfl, HBx⟩

set_option maxRecDepth 100000 in
set_option maxHeartbeats 3200000 in
theorem ref2_det_bad (M : Nat → Int) (VA : ∀ w : World, Calls Try.prog 51 #[.agg #[.int .i64 (M 0), .int .i64 (M 1), .int .i64 (M 2), .int .i64 (M 3), .int .i64 (M 4), .int .i64 (M 5), .int .i64 (M 6), .int .i64 (M 7), .int .i64 (M 8), .int .i64 (M 9), .int .i64 (M 10), .int .i64 (M 11), .int .i64 (M 12), .int .i64 (M 13), .int .i64 (M 14), .int .i64 (M 15), .int .i64 (M 16), .int .i64 (M 17)]] w fun x w' => x = .returned (.int .i64 8) ∧ Below w.heap.size w w') (w : World) :
    Calls Try.prog 26 #[.agg #[.int .i64 (M 0), .int .i64 (M 1), .int .i64 (M 2), .int .i64 (M 3), .int .i64 (M 4), .int .i64 (M 5), .int .i64 (M 6), .int .i64 (M 7), .int .i64 (M 8), .int .i64 (M 9), .int .i64 (M 10), .int .i64 (M 11), .int .i64 (M 12), .int .i64 (M 13), .int .i64 (M 14), .int .i64 (M 15), .int .i64 (M 16), .int .i64 (M 17)]] w fun x w' => x = .returned (.tuple #[.agg #[.int .i64 0, .int .i64 0], .int .i64 8]) ∧ Below w.heap.size w w' := by
  have xR := xRul
  have dz1 := dzA
  have dz2 := dzB
  go_enter Try.func26, Try.ntmps26
  go_upto_region 1 with fail
  refine opq (fun wx => Cs wx (w.heap.size) 18 M ∧ Cs wx (w.heap.size + 1) 2 (fun _ => 0) ∧ Fs wx (w.heap.size + 1) 2 ∧ w.heap.size + 1 < wx.heap.size ∧ Below w.heap.size w wx) ?_ ?_
  · exact ⟨cs_alloc _ (cs_new rfl (arrM M)) (by simp), cs_new (by simp) arr02', fs_new (by simp), by simp, kb⟩
  rintro wz ⟨cM, cR, fR, zs, HBa⟩
  go_step
  refine load18 (.tmp 1) _ M cM rfl rfl rfl ?_
  go_wp2_with fail
  with_reducible refine (VA _).mono ?_
  rintro e w1 ⟨rfl, hb⟩
  replace cR := cs_below cR hb (by omega)
  replace fR := fs_below fR hb (by omega)
  replace HBa := HBa.trans (hb.mono (by omega))
  replace zs := Nat.lt_of_lt_of_le zs hb.size
  clear hb
  clear VA cM
  have hR : ∀ o, o < 2 → w1.cell? ⟨w.heap.size + 1, o, none⟩ = some (.int .i64 0) := cR
  have hF : ∀ o, o < 2 → w1.frozen? ⟨w.heap.size + 1, o, none⟩ = false := fR
  go_wp2
  refine bodyPost_ret (by simp [results, Try.results26, go_sem, ext_cell, kp, *]; try rfl) rfl ?_
  exact ⟨rfl, kb⟩

end Go.Proofs.Ytlijkebdaalldaa
namespace Go.Proofs.Ytlijkebdaalldaa
open Go.RowKit
set_option linter.unusedVariables false
set_option linter.unusedSimpArgs false

theorem both0 {a b c d e f g h i j k l : Int} (o1 : okV a b c d e f = true) (o2 : okV g h i j k l = true) : (if okV a b c d e f = true then chV g h i j k l else 8) = 0 := by
  rw [if_pos o1, chV, if_pos o2]
theorem both8 {a b c d e f g h i j k l : Int} (ho : ¬ (okV a b c d e f = true ∧ okV g h i j k l = true)) : (if okV a b c d e f = true then chV g h i j k l else 8) = 8 := by
  by_cases q : okV a b c d e f = true
  · rw [if_pos q, chV, if_neg (fun k => ho ⟨q, k⟩)]
  · rw [if_neg q]

set_option maxHeartbeats 1600000 in
theorem ref2_Neg (a b c d e f : Int) (o1 : okV a b c d e f = true) (w : World) :
    Calls Try.prog 30 #[.agg #[.int .i64 a, .int .i64 b, .int .i64 c, .int .i64 d, .int .i64 e, .int .i64 f]] w fun x w' => x = .returned (.agg #[.int .i64 (-a), .int .i64 b, .int .i64 (-c), .int .i64 d, .int .i64 (-e), .int .i64 f]) ∧ Below w.heap.size w w' := by
  obtain ⟨h1, h2, h3⟩ := okV_in o1
  obtain ⟨x1, x2, x3, x4, x5⟩ := okF_out h1
  obtain ⟨y1, y2, y3, y4, y5⟩ := okF_out h2
  obtain ⟨z1, z2, z3, z4, z5⟩ := okF_out h3
  have N1 := fun w => ref_Neg a b (by omega) (by omega) w
  have N2 := fun w => ref_Neg c d (by omega) (by omega) w
  have N3 := fun w => ref_Neg e f (by omega) (by omega) w
  clear o1 h1 h2 h3 x1 x2 x3 x4 x5 y1 y2 y3 y4 y5 z1 z2 z3 z4 z5
  generalize -a = A at *
  generalize -c = C at *
  generalize -e = E at *
  have xR := xRul
  go_enter Try.func30, Try.ntmps30
  go_wp2_with fail
  go_region_held3 (fun w' => w'.cell? ⟨w.heap.size, 0, none⟩ = some (.int .i64 a) ∧ w'.cell? ⟨w.heap.size, 1, none⟩ = some (.int .i64 b) ∧ w'.cell? ⟨w.heap.size, 2, none⟩ = some (.int .i64 c) ∧ w'.cell? ⟨w.heap.size, 3, none⟩ = some (.int .i64 d) ∧ w'.cell? ⟨w.heap.size, 4, none⟩ = some (.int .i64 e) ∧ w'.cell? ⟨w.heap.size, 5, none⟩ = some (.int .i64 f)) (simp (maxDischargeDepth := 8) [go_sem, kp, *])
    ((go_at_call 61; (first | with_reducible refine (N1 _).mono ?_ | with_reducible refine (N2 _).mono ?_ | with_reducible refine (N3 _).mono ?_); rintro e w' ⟨rfl, hb⟩; obtain ⟨l9, d9, rfl⟩ := toExt hb; clear hb))
  all_goals (try go_wp2)
  all_goals refine bodyPost_ret (by simp [results, Try.results30, go_sem, ext_cell, kp, *]; try rfl) rfl ?_
  all_goals exact ⟨rfl, kb⟩

theorem okV_neg {a b c d e f : Int} (h : okV a b c d e f = true) : okV (-a) b (-c) d (-e) f = true := by
  unfold okV; rw [okF_neg1, okF_neg1, okF_neg1]; exact h
end Go.Proofs.Ytlijkebdaalldaa
namespace Go.Proofs.Ytlijkebdaalldaa
open Go.RowKit
set_option linter.unusedVariables false
set_option linter.unusedSimpArgs false

set_option maxRecDepth 100000 in
set_option maxHeartbeats 1600000 in
theorem ref2_two (a b c d e f g h : Int) (o1 : okF a b = true) (o2 : okF c d = true) (o3 : okF e f = true) (o4 : okF g h = true) (w : World) :
    Calls Try.prog 76 #[.agg #[.int .i64 a, .int .i64 b], .agg #[.int .i64 c, .int .i64 d], .agg #[.int .i64 e, .int .i64 f], .agg #[.int .i64 g, .int .i64 h]] w fun x w' => x = .returned (.tuple #[.agg #[.int .i64 (twN a b c d e f g h), .int .i64 (twD a b c d e f g h)], .int .i64 (twE a b c d e f g h)]) ∧ Below w.heap.size w w' := by
  have p1 := okC_of o1
  have p2 := okC_of o2
  have p3 := okC_of o3
  have p4 := okC_of o4
  have m1 := mu_okC a b c d
  have m2 := mu_okC e f g h
  have A1 := fun w => ref_Mul a b c d p1.1 p1.2.1 p1.2.2.1 p1.2.2.2 p2.1 p2.2.1 p2.2.2.1 p2.2.2.2 w
  have A2 := fun w => ref_Mul e f g h p3.1 p3.2.1 p3.2.2.1 p3.2.2.2 p4.1 p4.2.1 p4.2.2.1 p4.2.2.2 w
  have A3 := fun w => ref_Add (muN a b c d) (muD a b c d) (muN e f g h) (muD e f g h) m1.1 m1.2.1 m1.2.2.1 m1.2.2.2 m2.1 m2.2.1 m2.2.2.1 m2.2.2.2 w
  have F1 := fun w => ref2_first (muE a b c d) (muE e f g h) 0 w
  have R1 : Hid (fsI (muE a b c d) (muE e f g h) 0 = 0 → twN a b c d e f g h = adN (muN a b c d) (muD a b c d) (muN e f g h) (muD e f g h)) := Lib.hid (fun q => by unfold twN; rw [if_pos q])
  have R2 : Hid (fsI (muE a b c d) (muE e f g h) 0 = 0 → twD a b c d e f g h = adD (muN a b c d) (muD a b c d) (muN e f g h) (muD e f g h)) := Lib.hid (fun q => by unfold twD; rw [if_pos q])
  have R3 : Hid (fsI (muE a b c d) (muE e f g h) 0 = 0 → twE a b c d e f g h = adE (muN a b c d) (muD a b c d) (muN e f g h) (muD e f g h)) := Lib.hid (fun q => by unfold twE; rw [if_pos q])
  have Q1 : Hid (¬ fsI (muE a b c d) (muE e f g h) 0 = 0 → twN a b c d e f g h = 0) := Lib.hid (fun q => by unfold twN; rw [if_neg q])
  have Q2 : Hid (¬ fsI (muE a b c d) (muE e f g h) 0 = 0 → twD a b c d e f g h = 0) := Lib.hid (fun q => by unfold twD; rw [if_neg q])
  have Q3 : Hid (¬ fsI (muE a b c d) (muE e f g h) 0 = 0 → twE a b c d e f g h = fsI (muE a b c d) (muE e f g h) 0) := Lib.hid (fun q => by unfold twE; rw [if_neg q])
  clear p1 p2 p3 p4 m1 m2 o1 o2 o3 o4
  generalize twN a b c d e f g h = T1 at *
  generalize twD a b c d e f g h = T2 at *
  generalize twE a b c d e f g h = T3 at *
  generalize adN (muN a b c d) (muD a b c d) (muN e f g h) (muD e f g h) = U1 at *
  generalize adD (muN a b c d) (muD a b c d) (muN e f g h) (muD e f g h) = U2 at *
  generalize adE (muN a b c d) (muD a b c d) (muN e f g h) (muD e f g h) = U3 at *
  generalize fsI (muE a b c d) (muE e f g h) 0 = E at *
  generalize muN a b c d = x1 at *
  generalize muD a b c d = x2 at *
  generalize muE a b c d = x3 at *
  generalize muN e f g h = y1 at *
  generalize muD e f g h = y2 at *
  generalize muE e f g h = y3 at *
  have xR := xRul
  go_enter Try.func76, Try.ntmps76
  go_wp2_with fail
  with_reducible refine (A1 _).mono ?_
  rintro e w1 ⟨rfl, hb⟩
  have HB1 : Below w.heap.size w w1 := by
    refine Below.trans ?_ (hb.mono ?_)
    · exact kb
    · first | omega | (simp <;> omega)
  have zs1 : w.heap.size + 5 < w1.heap.size + 1 := by have := hb.size; (try simp at this); omega
  have a0 : w1.cell? ⟨w.heap.size, 0, none⟩ = some (.int .i64 a) := bce hb
  have a1 : w1.cell? ⟨w.heap.size, 1, none⟩ = some (.int .i64 b) := bce hb
  have b0 : w1.cell? ⟨w.heap.size + 1, 0, none⟩ = some (.int .i64 c) := bce hb
  have b1 : w1.cell? ⟨w.heap.size + 1, 1, none⟩ = some (.int .i64 d) := bce hb
  have d0 : w1.cell? ⟨w.heap.size + 1 + 1, 0, none⟩ = some (.int .i64 e) := bce hb
  have d1 : w1.cell? ⟨w.heap.size + 1 + 1, 1, none⟩ = some (.int .i64 f) := bce hb
  have e0 : w1.cell? ⟨w.heap.size + 1 + 1 + 1, 0, none⟩ = some (.int .i64 g) := bce hb
  have e1 : w1.cell? ⟨w.heap.size + 1 + 1 + 1, 1, none⟩ = some (.int .i64 h) := bce hb
  have c0 : w1.cell? ⟨w.heap.size + 1 + 1 + 1 + 1, 0, none⟩ = some (.int .i64 0) := bce hb
  have c1 : w1.cell? ⟨w.heap.size + 1 + 1 + 1 + 1, 1, none⟩ = some (.int .i64 0) := bce hb
  have cf0 : w1.frozen? ⟨w.heap.size + 1 + 1 + 1 + 1, 0, none⟩ = false := bfz hb
  have cf1 : w1.frozen? ⟨w.heap.size + 1 + 1 + 1 + 1, 1, none⟩ = false := bfz hb
  clear hb
  have zy0_1 : w.heap.size < w1.heap.size := by omega
  have zy1_1 : w.heap.size + 1 < w1.heap.size := by omega
  have zy2_1 : w.heap.size + 1 + 1 < w1.heap.size := by omega
  have zy3_1 : w.heap.size + 1 + 1 + 1 < w1.heap.size := by omega
  have zy4_1 : w.heap.size + 1 + 1 + 1 + 1 < w1.heap.size := by omega
  go_wp2_with fail
  with_reducible refine (A2 _).mono ?_
  rintro e w2 ⟨rfl, hb⟩
  have HB2 : Below w.heap.size w w2 := by
    refine Below.trans ?_ (hb.mono ?_)
    · exact kb
    · first | omega | (simp <;> omega)
  have zs2 : w1.heap.size + 1 < w2.heap.size + 1 := by have := hb.size; (try simp at this); omega
  replace a0 : w2.cell? ⟨w.heap.size, 0, none⟩ = some (.int .i64 a) := bce hb
  replace a1 : w2.cell? ⟨w.heap.size, 1, none⟩ = some (.int .i64 b) := bce hb
  replace b0 : w2.cell? ⟨w.heap.size + 1, 0, none⟩ = some (.int .i64 c) := bce hb
  replace b1 : w2.cell? ⟨w.heap.size + 1, 1, none⟩ = some (.int .i64 d) := bce hb
  replace d0 : w2.cell? ⟨w.heap.size + 1 + 1, 0, none⟩ = some (.int .i64 e) := bce hb
  replace d1 : w2.cell? ⟨w.heap.size + 1 + 1, 1, none⟩ = some (.int .i64 f) := bce hb
  replace e0 : w2.cell? ⟨w.heap.size + 1 + 1 + 1, 0, none⟩ = some (.int .i64 g) := bce hb
  replace e1 : w2.cell? ⟨w.heap.size + 1 + 1 + 1, 1, none⟩ = some (.int .i64 h) := bce hb
  replace c0 : w2.cell? ⟨w.heap.size + 1 + 1 + 1 + 1, 0, none⟩ = some (.int .i64 0) := bce hb
  replace c1 : w2.cell? ⟨w.heap.size + 1 + 1 + 1 + 1, 1, none⟩ = some (.int .i64 0) := bce hb
  replace cf0 : w2.frozen? ⟨w.heap.size + 1 + 1 + 1 + 1, 0, none⟩ = false := bfz hb
  replace cf1 : w2.frozen? ⟨w.heap.size + 1 + 1 + 1 + 1, 1, none⟩ = false := bfz hb
  have r1_0 : w2.cell? ⟨w1.heap.size, 0, none⟩ = some (.int .i64 x1) := bce hb
  have r1_1 : w2.cell? ⟨w1.heap.size, 1, none⟩ = some (.int .i64 x2) := bce hb
  clear hb HB1
  have zy0_2 : w.heap.size < w2.heap.size := by omega
  have zy1_2 : w.heap.size + 1 < w2.heap.size := by omega
  have zy2_2 : w.heap.size + 1 + 1 < w2.heap.size := by omega
  have zy3_2 : w.heap.size + 1 + 1 + 1 < w2.heap.size := by omega
  have zy4_2 : w.heap.size + 1 + 1 + 1 + 1 < w2.heap.size := by omega
  have zz_w1_2 : w1.heap.size < w2.heap.size := by omega
  go_wp2_with fail
  with_reducible refine (F1 _).mono ?_
  rintro e w9 ⟨rfl, rfl⟩
  by_cases hE : E = 0
  · have h1 := R1.out hE
    have h2 := R2.out hE
    have h3 := R3.out hE
    subst h1; subst h2; subst h3; subst hE; clear R1 R2 R3 F1
    go_wp2_with fail
    with_reducible refine (A3 _).mono ?_
    rintro e w3 ⟨rfl, hb⟩
    have HB3 : Below w.heap.size w w3 := by
      refine Below.trans ?_ (hb.mono ?_)
      · exact kb
      · first | omega | (simp <;> omega)
    have zs3 : w2.heap.size + 1 < w3.heap.size + 1 := by have := hb.size; (try simp at this); omega
    replace a0 : w3.cell? ⟨w.heap.size, 0, none⟩ = some (.int .i64 a) := bce hb
    replace a1 : w3.cell? ⟨w.heap.size, 1, none⟩ = some (.int .i64 b) := bce hb
    replace b0 : w3.cell? ⟨w.heap.size + 1, 0, none⟩ = some (.int .i64 c) := bce hb
    replace b1 : w3.cell? ⟨w.heap.size + 1, 1, none⟩ = some (.int .i64 d) := bce hb
    replace d0 : w3.cell? ⟨w.heap.size + 1 + 1, 0, none⟩ = some (.int .i64 e) := bce hb
    replace d1 : w3.cell? ⟨w.heap.size + 1 + 1, 1, none⟩ = some (.int .i64 f) := bce hb
    replace e0 : w3.cell? ⟨w.heap.size + 1 + 1 + 1, 0, none⟩ = some (.int .i64 g) := bce hb
    replace e1 : w3.cell? ⟨w.heap.size + 1 + 1 + 1, 1, none⟩ = some (.int .i64 h) := bce hb
    replace c0 : w3.cell? ⟨w.heap.size + 1 + 1 + 1 + 1, 0, none⟩ = some (.int .i64 0) := bce hb
    replace c1 : w3.cell? ⟨w.heap.size + 1 + 1 + 1 + 1, 1, none⟩ = some (.int .i64 0) := bce hb
    replace cf0 : w3.frozen? ⟨w.heap.size + 1 + 1 + 1 + 1, 0, none⟩ = false := bfz hb
    replace cf1 : w3.frozen? ⟨w.heap.size + 1 + 1 + 1 + 1, 1, none⟩ = false := bfz hb
    replace r1_0 : w3.cell? ⟨w1.heap.size, 0, none⟩ = some (.int .i64 x1) := bce hb
    replace r1_1 : w3.cell? ⟨w1.heap.size, 1, none⟩ = some (.int .i64 x2) := bce hb
    have r2_0 : w3.cell? ⟨w2.heap.size, 0, none⟩ = some (.int .i64 y1) := bce hb
    have r2_1 : w3.cell? ⟨w2.heap.size, 1, none⟩ = some (.int .i64 y2) := bce hb
    clear hb HB2
    have zy0_3 : w.heap.size < w3.heap.size := by omega
    have zy1_3 : w.heap.size + 1 < w3.heap.size := by omega
    have zy2_3 : w.heap.size + 1 + 1 < w3.heap.size := by omega
    have zy3_3 : w.heap.size + 1 + 1 + 1 < w3.heap.size := by omega
    have zy4_3 : w.heap.size + 1 + 1 + 1 + 1 < w3.heap.size := by omega
    have zz_w1_3 : w1.heap.size < w3.heap.size := by omega
    have zz_w2_3 : w2.heap.size < w3.heap.size := by omega
    go_wp2_with fail
    refine bodyPost_ret (by simp [results, Try.results76, go_sem, ext_cell, kp, *]; try rfl) rfl ?_
    exact ⟨rfl, kb⟩
  · have hE2 : (E == 0) = false := by simp [hE]
    have h1 := Q1.out hE
    have h2 := Q2.out hE
    have h3 := Q3.out hE
    subst h1; subst h2; subst h3
    clear hE Q1 Q2 Q3 R1 R2 R3
    go_wp2_with fail
    with_reducible refine (F1 _).mono ?_
    rintro e w9 ⟨rfl, rfl⟩
    go_wp2_with fail
    refine bodyPost_ret (by simp [results, Try.results76, go_sem, ext_cell, kp, *]; try rfl) rfl ?_
    exact ⟨rfl, kb⟩

set_option maxRecDepth 100000 in
set_option maxHeartbeats 1600000 in
theorem ref2_dot_ok (a b c d e f g h i j k l : Int) (o1 : okV a b c d e f = true) (o2 : okV g h i j k l = true) (w : World) :
    Calls Try.prog 53 #[.agg #[.int .i64 a, .int .i64 b, .int .i64 c, .int .i64 d, .int .i64 e, .int .i64 f], .agg #[.int .i64 g, .int .i64 h, .int .i64 i, .int .i64 j, .int .i64 k, .int .i64 l]] w fun x w' => x = .returned (.tuple #[.agg #[.int .i64 (doN a b c d e f g h i j k l), .int .i64 (doD a b c d e f g h i j k l)], .int .i64 (doE a b c d e f g h i j k l)]) ∧ Below w.heap.size w w' := by
  obtain ⟨p1, p2, p3⟩ := okC_all o1
  obtain ⟨q1, q2, q3⟩ := okC_all o2
  obtain ⟨u1, u2, u3⟩ := okV_in o1
  obtain ⟨v1, v2, v3⟩ := okV_in o2
  have m1 := tw_okC a b g h c d i j
  have m2 := mu_okC e f k l
  have A0 := fun w => ref2_Both a b c d e f g h i j k l p1 p2 p3 q1 q2 q3 w
  rw [both0 o1 o2] at A0
  have A1 := fun w => ref2_two a b g h c d i j u1 v1 u2 v2 w
  have A2 := fun w => ref_Mul e f k l p3.1 p3.2.1 p3.2.2.1 p3.2.2.2 q3.1 q3.2.1 q3.2.2.1 q3.2.2.2 w
  have A3 := fun w => ref_Add (twN a b g h c d i j) (twD a b g h c d i j) (muN e f k l) (muD e f k l) m1.1 m1.2.1 m1.2.2.1 m1.2.2.2 m2.1 m2.2.1 m2.2.2.1 m2.2.2.2 w
  have F1 := fun w => ref2_first (twE a b g h c d i j) (muE e f k l) 0 w
  have R1 : Hid (fsI (twE a b g h c d i j) (muE e f k l) 0 = 0 → doN a b c d e f g h i j k l = adN (twN a b g h c d i j) (twD a b g h c d i j) (muN e f k l) (muD e f k l)) := Lib.hid (fun q => by have q2 : doF a b c d e f g h i j k l = 0 := q; unfold doN; rw [if_pos q2])
  have R2 : Hid (fsI (twE a b g h c d i j) (muE e f k l) 0 = 0 → doD a b c d e f g h i j k l = adD (twN a b g h c d i j) (twD a b g h c d i j) (muN e f k l) (muD e f k l)) := Lib.hid (fun q => by have q2 : doF a b c d e f g h i j k l = 0 := q; unfold doD; rw [if_pos q2])
  have R3 : Hid (fsI (twE a b g h c d i j) (muE e f k l) 0 = 0 → doE a b c d e f g h i j k l = adE (twN a b g h c d i j) (twD a b g h c d i j) (muN e f k l) (muD e f k l)) := Lib.hid (fun q => by have q2 : doF a b c d e f g h i j k l = 0 := q; unfold doE; rw [if_pos q2])
  have Q1 : Hid (¬ fsI (twE a b g h c d i j) (muE e f k l) 0 = 0 → doN a b c d e f g h i j k l = 0) := Lib.hid (fun q => by have q2 : ¬ doF a b c d e f g h i j k l = 0 := q; unfold doN; rw [if_neg q2])
  have Q2 : Hid (¬ fsI (twE a b g h c d i j) (muE e f k l) 0 = 0 → doD a b c d e f g h i j k l = 0) := Lib.hid (fun q => by have q2 : ¬ doF a b c d e f g h i j k l = 0 := q; unfold doD; rw [if_neg q2])
  have Q3 : Hid (¬ fsI (twE a b g h c d i j) (muE e f k l) 0 = 0 → doE a b c d e f g h i j k l = fsI (twE a b g h c d i j) (muE e f k l) 0) := Lib.hid (fun q => by have q2 : ¬ doF a b c d e f g h i j k l = 0 := q; unfold doE; rw [if_neg q2]; rfl)
  clear p1 p2 p3 q1 q2 q3 u1 u2 u3 v1 v2 v3 m1 m2 o1 o2
  generalize doN a b c d e f g h i j k l = T1 at *
  generalize doD a b c d e f g h i j k l = T2 at *
  generalize doE a b c d e f g h i j k l = T3 at *
  generalize adN (twN a b g h c d i j) (twD a b g h c d i j) (muN e f k l) (muD e f k l) = U1 at *
  generalize adD (twN a b g h c d i j) (twD a b g h c d i j) (muN e f k l) (muD e f k l) = U2 at *
  generalize adE (twN a b g h c d i j) (twD a b g h c d i j) (muN e f k l) (muD e f k l) = U3 at *
  generalize fsI (twE a b g h c d i j) (muE e f k l) 0 = E at *
  generalize twN a b g h c d i j = x1 at *
  generalize twD a b g h c d i j = x2 at *
  generalize twE a b g h c d i j = x3 at *
  generalize muN e f k l = y1 at *
  generalize muD e f k l = y2 at *
  generalize muE e f k l = y3 at *
  have xR := xRul
  go_enter Try.func53, Try.ntmps53
  go_wp2_with fail
  with_reducible refine (A0 _).mono ?_
  rintro e w1 ⟨rfl, hb⟩
  have HB1 : Below w.heap.size w w1 := by
    refine Below.trans ?_ (hb.mono ?_)
    · exact kb
    · first | omega | (simp <;> omega)
  have zs1 : w.heap.size + 3 < w1.heap.size + 1 := by have := hb.size; (try simp at this); omega
  have a0 : w1.cell? ⟨w.heap.size, 0, none⟩ = some (.int .i64 a) := bce hb
  have a1 : w1.cell? ⟨w.heap.size, 1, none⟩ = some (.int .i64 b) := bce hb
  have a2 : w1.cell? ⟨w.heap.size, 2, none⟩ = some (.int .i64 c) := bce hb
  have a3 : w1.cell? ⟨w.heap.size, 3, none⟩ = some (.int .i64 d) := bce hb
  have a4 : w1.cell? ⟨w.heap.size, 4, none⟩ = some (.int .i64 e) := bce hb
  have a5 : w1.cell? ⟨w.heap.size, 5, none⟩ = some (.int .i64 f) := bce hb
  have b0 : w1.cell? ⟨w.heap.size + 1, 0, none⟩ = some (.int .i64 g) := bce hb
  have b1 : w1.cell? ⟨w.heap.size + 1, 1, none⟩ = some (.int .i64 h) := bce hb
  have b2 : w1.cell? ⟨w.heap.size + 1, 2, none⟩ = some (.int .i64 i) := bce hb
  have b3 : w1.cell? ⟨w.heap.size + 1, 3, none⟩ = some (.int .i64 j) := bce hb
  have b4 : w1.cell? ⟨w.heap.size + 1, 4, none⟩ = some (.int .i64 k) := bce hb
  have b5 : w1.cell? ⟨w.heap.size + 1, 5, none⟩ = some (.int .i64 l) := bce hb
  have c0 : w1.cell? ⟨w.heap.size + 1 + 1, 0, none⟩ = some (.int .i64 0) := bce hb
  have c1 : w1.cell? ⟨w.heap.size + 1 + 1, 1, none⟩ = some (.int .i64 0) := bce hb
  have cf0 : w1.frozen? ⟨w.heap.size + 1 + 1, 0, none⟩ = false := bfz hb
  have cf1 : w1.frozen? ⟨w.heap.size + 1 + 1, 1, none⟩ = false := bfz hb
  clear hb
  have zy0_1 : w.heap.size < w1.heap.size := by omega
  have zy1_1 : w.heap.size + 1 < w1.heap.size := by omega
  have zy2_1 : w.heap.size + 1 + 1 < w1.heap.size := by omega
  go_wp2_with fail
  with_reducible refine (A1 _).mono ?_
  rintro e w2 ⟨rfl, hb⟩
  have HB2 : Below w.heap.size w w2 := by
    refine Below.trans ?_ (hb.mono ?_)
    · exact kb
    · first | omega | (simp <;> omega)
  have zs2 : w1.heap.size + 0 < w2.heap.size + 1 := by have := hb.size; (try simp at this); omega
  replace a0 : w2.cell? ⟨w.heap.size, 0, none⟩ = some (.int .i64 a) := bce hb
  replace a1 : w2.cell? ⟨w.heap.size, 1, none⟩ = some (.int .i64 b) := bce hb
  replace a2 : w2.cell? ⟨w.heap.size, 2, none⟩ = some (.int .i64 c) := bce hb
  replace a3 : w2.cell? ⟨w.heap.size, 3, none⟩ = some (.int .i64 d) := bce hb
  replace a4 : w2.cell? ⟨w.heap.size, 4, none⟩ = some (.int .i64 e) := bce hb
  replace a5 : w2.cell? ⟨w.heap.size, 5, none⟩ = some (.int .i64 f) := bce hb
  replace b0 : w2.cell? ⟨w.heap.size + 1, 0, none⟩ = some (.int .i64 g) := bce hb
  replace b1 : w2.cell? ⟨w.heap.size + 1, 1, none⟩ = some (.int .i64 h) := bce hb
  replace b2 : w2.cell? ⟨w.heap.size + 1, 2, none⟩ = some (.int .i64 i) := bce hb
  replace b3 : w2.cell? ⟨w.heap.size + 1, 3, none⟩ = some (.int .i64 j) := bce hb
  replace b4 : w2.cell? ⟨w.heap.size + 1, 4, none⟩ = some (.int .i64 k) := bce hb
  replace b5 : w2.cell? ⟨w.heap.size + 1, 5, none⟩ = some (.int .i64 l) := bce hb
  replace c0 : w2.cell? ⟨w.heap.size + 1 + 1, 0, none⟩ = some (.int .i64 0) := bce hb
  replace c1 : w2.cell? ⟨w.heap.size + 1 + 1, 1, none⟩ = some (.int .i64 0) := bce hb
  replace cf0 : w2.frozen? ⟨w.heap.size + 1 + 1, 0, none⟩ = false := bfz hb
  replace cf1 : w2.frozen? ⟨w.heap.size + 1 + 1, 1, none⟩ = false := bfz hb
  clear hb HB1
  have zy0_2 : w.heap.size < w2.heap.size := by omega
  have zy1_2 : w.heap.size + 1 < w2.heap.size := by omega
  have zy2_2 : w.heap.size + 1 + 1 < w2.heap.size := by omega
  go_wp2_with fail
  with_reducible refine (A2 _).mono ?_
  rintro e w3 ⟨rfl, hb⟩
  have HB3 : Below w.heap.size w w3 := by
    refine Below.trans ?_ (hb.mono ?_)
    · exact kb
    · first | omega | (simp <;> omega)
  have zs3 : w2.heap.size + 1 < w3.heap.size + 1 := by have := hb.size; (try simp at this); omega
  replace a0 : w3.cell? ⟨w.heap.size, 0, none⟩ = some (.int .i64 a) := bce hb
  replace a1 : w3.cell? ⟨w.heap.size, 1, none⟩ = some (.int .i64 b) := bce hb
  replace a2 : w3.cell? ⟨w.heap.size, 2, none⟩ = some (.int .i64 c) := bce hb
  replace a3 : w3.cell? ⟨w.heap.size, 3, none⟩ = some (.int .i64 d) := bce hb
  replace a4 : w3.cell? ⟨w.heap.size, 4, none⟩ = some (.int .i64 e) := bce hb
  replace a5 : w3.cell? ⟨w.heap.size, 5, none⟩ = some (.int .i64 f) := bce hb
  replace b0 : w3.cell? ⟨w.heap.size + 1, 0, none⟩ = some (.int .i64 g) := bce hb
  replace b1 : w3.cell? ⟨w.heap.size + 1, 1, none⟩ = some (.int .i64 h) := bce hb
  replace b2 : w3.cell? ⟨w.heap.size + 1, 2, none⟩ = some (.int .i64 i) := bce hb
  replace b3 : w3.cell? ⟨w.heap.size + 1, 3, none⟩ = some (.int .i64 j) := bce hb
  replace b4 : w3.cell? ⟨w.heap.size + 1, 4, none⟩ = some (.int .i64 k) := bce hb
  replace b5 : w3.cell? ⟨w.heap.size + 1, 5, none⟩ = some (.int .i64 l) := bce hb
  replace c0 : w3.cell? ⟨w.heap.size + 1 + 1, 0, none⟩ = some (.int .i64 0) := bce hb
  replace c1 : w3.cell? ⟨w.heap.size + 1 + 1, 1, none⟩ = some (.int .i64 0) := bce hb
  replace cf0 : w3.frozen? ⟨w.heap.size + 1 + 1, 0, none⟩ = false := bfz hb
  replace cf1 : w3.frozen? ⟨w.heap.size + 1 + 1, 1, none⟩ = false := bfz hb
  have r2_0 : w3.cell? ⟨w2.heap.size, 0, none⟩ = some (.int .i64 x1) := bce hb
  have r2_1 : w3.cell? ⟨w2.heap.size, 1, none⟩ = some (.int .i64 x2) := bce hb
  clear hb HB2
  have zy0_3 : w.heap.size < w3.heap.size := by omega
  have zy1_3 : w.heap.size + 1 < w3.heap.size := by omega
  have zy2_3 : w.heap.size + 1 + 1 < w3.heap.size := by omega
  have zz_w2_3 : w2.heap.size < w3.heap.size := by omega
  go_wp2_with fail
  with_reducible refine (F1 _).mono ?_
  rintro e w9 ⟨rfl, rfl⟩
  by_cases hE : E = 0
  · have h1 := R1.out hE
    have h2 := R2.out hE
    have h3 := R3.out hE
    subst h1; subst h2; subst h3; subst hE; clear R1 R2 R3 F1
    go_wp2_with fail
    with_reducible refine (A3 _).mono ?_
    rintro e w4 ⟨rfl, hb⟩
    have HB4 : Below w.heap.size w w4 := by
      refine Below.trans ?_ (hb.mono ?_)
      · exact kb
      · first | omega | (simp <;> omega)
    have zs4 : w3.heap.size + 1 < w4.heap.size + 1 := by have := hb.size; (try simp at this); omega
    replace a0 : w4.cell? ⟨w.heap.size, 0, none⟩ = some (.int .i64 a) := bce hb
    replace a1 : w4.cell? ⟨w.heap.size, 1, none⟩ = some (.int .i64 b) := bce hb
    replace a2 : w4.cell? ⟨w.heap.size, 2, none⟩ = some (.int .i64 c) := bce hb
    replace a3 : w4.cell? ⟨w.heap.size, 3, none⟩ = some (.int .i64 d) := bce hb
    replace a4 : w4.cell? ⟨w.heap.size, 4, none⟩ = some (.int .i64 e) := bce hb
    replace a5 : w4.cell? ⟨w.heap.size, 5, none⟩ = some (.int .i64 f) := bce hb
    replace b0 : w4.cell? ⟨w.heap.size + 1, 0, none⟩ = some (.int .i64 g) := bce hb
    replace b1 : w4.cell? ⟨w.heap.size + 1, 1, none⟩ = some (.int .i64 h) := bce hb
    replace b2 : w4.cell? ⟨w.heap.size + 1, 2, none⟩ = some (.int .i64 i) := bce hb
    replace b3 : w4.cell? ⟨w.heap.size + 1, 3, none⟩ = some (.int .i64 j) := bce hb
    replace b4 : w4.cell? ⟨w.heap.size + 1, 4, none⟩ = some (.int .i64 k) := bce hb
    replace b5 : w4.cell? ⟨w.heap.size + 1, 5, none⟩ = some (.int .i64 l) := bce hb
    replace c0 : w4.cell? ⟨w.heap.size + 1 + 1, 0, none⟩ = some (.int .i64 0) := bce hb
    replace c1 : w4.cell? ⟨w.heap.size + 1 + 1, 1, none⟩ = some (.int .i64 0) := bce hb
    replace cf0 : w4.frozen? ⟨w.heap.size + 1 + 1, 0, none⟩ = false := bfz hb
    replace cf1 : w4.frozen? ⟨w.heap.size + 1 + 1, 1, none⟩ = false := bfz hb
    replace r2_0 : w4.cell? ⟨w2.heap.size, 0, none⟩ = some (.int .i64 x1) := bce hb
    replace r2_1 : w4.cell? ⟨w2.heap.size, 1, none⟩ = some (.int .i64 x2) := bce hb
    have r3_0 : w4.cell? ⟨w3.heap.size, 0, none⟩ = some (.int .i64 y1) := bce hb
    have r3_1 : w4.cell? ⟨w3.heap.size, 1, none⟩ = some (.int .i64 y2) := bce hb
    clear hb HB3
    have zy0_4 : w.heap.size < w4.heap.size := by omega
    have zy1_4 : w.heap.size + 1 < w4.heap.size := by omega
    have zy2_4 : w.heap.size + 1 + 1 < w4.heap.size := by omega
    have zz_w2_4 : w2.heap.size < w4.heap.size := by omega
    have zz_w3_4 : w3.heap.size < w4.heap.size := by omega
    go_wp2_with fail
    refine bodyPost_ret (by simp [results, Try.results53, go_sem, ext_cell, kp, *]; try rfl) rfl ?_
    exact ⟨rfl, kb⟩
  · have hE2 : (E == 0) = false := by simp [hE]
    have h1 := Q1.out hE
    have h2 := Q2.out hE
    have h3 := Q3.out hE
    subst h1; subst h2; subst h3
    clear hE Q1 Q2 Q3 R1 R2 R3
    go_wp2_with fail
    with_reducible refine (F1 _).mono ?_
    rintro e w9 ⟨rfl, rfl⟩
    go_wp2_with fail
    refine bodyPost_ret (by simp [results, Try.results53, go_sem, ext_cell, kp, *]; try rfl) rfl ?_
    exact ⟨rfl, kb⟩

set_option maxHeartbeats 800000 in
theorem ref2_dot_bad (a b c d e f g h i j k l : Int) (p1 : okC a b) (p2 : okC c d) (p3 : okC e f) (q1 : okC g h) (q2 : okC i j) (q3 : okC k l) (ho : ¬ (okV a b c d e f = true ∧ okV g h i j k l = true)) (w : World) :
    Calls Try.prog 53 #[.agg #[.int .i64 a, .int .i64 b, .int .i64 c, .int .i64 d, .int .i64 e, .int .i64 f], .agg #[.int .i64 g, .int .i64 h, .int .i64 i, .int .i64 j, .int .i64 k, .int .i64 l]] w fun x w' => x = .returned (.tuple #[.agg #[.int .i64 0, .int .i64 0], .int .i64 8]) ∧ Below w.heap.size w w' := by
  have A0 := fun w => ref2_Both a b c d e f g h i j k l p1 p2 p3 q1 q2 q3 w
  rw [both8 ho] at A0
  clear p1 p2 p3 q1 q2 q3 ho
  have xR := xRul
  go_enter Try.func53, Try.ntmps53
  go_wp2_with fail
  refine (A0 _).mono ?_
  rintro e w1c ⟨rfl, hb1c⟩
  obtain ⟨l1c, d1c, rfl⟩ := toExt hb1c
  clear hb1c
  go_wp2
  refine bodyPost_ret (by simp [results, Try.results53, go_sem, ext_cell, kp, *]; try rfl) rfl ?_
  exact ⟨rfl, kb⟩

/-- P2.2: dot products of the reference. -/
theorem ref2_Dot (a b c d e f g h i j k l : Int) (p1 : okC a b) (p2 : okC c d) (p3 : okC e f) (q1 : okC g h) (q2 : okC i j) (q3 : okC k l) (w : World) :
    Calls Try.prog 53 #[.agg #[.int .i64 a, .int .i64 b, .int .i64 c, .int .i64 d, .int .i64 e, .int .i64 f], .agg #[.int .i64 g, .int .i64 h, .int .i64 i, .int .i64 j, .int .i64 k, .int .i64 l]] w fun x w' => x = .returned (.tuple #[.agg #[.int .i64 (dtN a b c d e f g h i j k l), .int .i64 (dtD a b c d e f g h i j k l)], .int .i64 (dtE a b c d e f g h i j k l)]) ∧ Below w.heap.size w w' := by
  unfold dtN dtD dtE
  by_cases ho : okV a b c d e f = true ∧ okV g h i j k l = true
  · rw [if_pos ho, if_pos ho, if_pos ho]; exact ref2_dot_ok a b c d e f g h i j k l ho.1 ho.2 w
  · rw [if_neg ho, if_neg ho, if_neg ho]; exact ref2_dot_bad a b c d e f g h i j k l p1 p2 p3 q1 q2 q3 ho w

set_option maxRecDepth 100000 in
set_option maxHeartbeats 3200000 in
theorem ref2_cross_ok (a b c d e f g h i j k l : Int) (o1 : okV a b c d e f = true) (o2 : okV g h i j k l = true) (w : World) :
    Calls Try.prog 58 #[.agg #[.int .i64 a, .int .i64 b, .int .i64 c, .int .i64 d, .int .i64 e, .int .i64 f], .agg #[.int .i64 g, .int .i64 h, .int .i64 i, .int .i64 j, .int .i64 k, .int .i64 l]] w fun x w' => x = .returned (.tuple #[.agg #[.int .i64 (vz (fsI (twE c d k l (-e) f i j) (twE e f g h (-a) b k l) (twE a b i j (-c) d g h)) (twN c d k l (-e) f i j)), .int .i64 (vz (fsI (twE c d k l (-e) f i j) (twE e f g h (-a) b k l) (twE a b i j (-c) d g h)) (twD c d k l (-e) f i j)), .int .i64 (vz (fsI (twE c d k l (-e) f i j) (twE e f g h (-a) b k l) (twE a b i j (-c) d g h)) (twN e f g h (-a) b k l)), .int .i64 (vz (fsI (twE c d k l (-e) f i j) (twE e f g h (-a) b k l) (twE a b i j (-c) d g h)) (twD e f g h (-a) b k l)), .int .i64 (vz (fsI (twE c d k l (-e) f i j) (twE e f g h (-a) b k l) (twE a b i j (-c) d g h)) (twN a b i j (-c) d g h)), .int .i64 (vz (fsI (twE c d k l (-e) f i j) (twE e f g h (-a) b k l) (twE a b i j (-c) d g h)) (twD a b i j (-c) d g h))], .int .i64 (fsI (twE c d k l (-e) f i j) (twE e f g h (-a) b k l) (twE a b i j (-c) d g h))]) ∧ Below w.heap.size w w' := by
  obtain ⟨p1, p2, p3⟩ := okC_all o1
  obtain ⟨q1, q2, q3⟩ := okC_all o2
  obtain ⟨u1, u2, u3⟩ := okV_in o1
  obtain ⟨v1, v2, v3⟩ := okV_in o2
  obtain ⟨n1, n2, n3⟩ := okV_in (okV_neg o1)
  have A0 := fun w => ref2_Both a b c d e f g h i j k l p1 p2 p3 q1 q2 q3 w
  rw [both0 o1 o2] at A0
  have AN := fun w => ref2_Neg a b c d e f o1 w
  have A1 := fun w => ref2_two c d k l (-e) f i j u2 v3 n3 v2 w
  have A2 := fun w => ref2_two e f g h (-a) b k l u3 v1 n1 v3 w
  have A3 := fun w => ref2_two a b i j (-c) d g h u1 v2 n2 v1 w
  clear p1 p2 p3 q1 q2 q3 o1 o2 u1 u2 u3 v1 v2 v3 n1 n2 n3
  generalize twN c d k l (-e) f i j = x1 at *
  generalize twD c d k l (-e) f i j = x2 at *
  generalize twE c d k l (-e) f i j = x3 at *
  generalize twN e f g h (-a) b k l = y1 at *
  generalize twD e f g h (-a) b k l = y2 at *
  generalize twE e f g h (-a) b k l = y3 at *
  generalize twN a b i j (-c) d g h = z1 at *
  generalize twD a b i j (-c) d g h = z2 at *
  generalize twE a b i j (-c) d g h = z3 at *
  generalize -a = A at *
  generalize -c = C at *
  generalize -e = E0 at *
  have F1 := fun w => ref2_first x3 y3 z3 w
  generalize fsI x3 y3 z3 = E at *
  have F2 := fun w => ref2_vec x1 x2 y1 y2 z1 z2 E w
  generalize vz E x1 = X1 at *
  generalize vz E x2 = X2 at *
  generalize vz E y1 = Y1 at *
  generalize vz E y2 = Y2 at *
  generalize vz E z1 = Z1 at *
  generalize vz E z2 = Z2 at *
  have xR := xRul
  go_enter Try.func58, Try.ntmps58
  go_wp2_with fail
  with_reducible refine (A0 _).mono ?_
  rintro e w1 ⟨rfl, hb⟩
  have HB1 : Below w.heap.size w w1 := by
    refine Below.trans ?_ (hb.mono ?_)
    · exact kb
    · first | omega | (simp <;> omega)
  have zs1 : w.heap.size + 3 < w1.heap.size + 1 := by have := hb.size; (try simp at this); omega
  have a0 : w1.cell? ⟨w.heap.size, 0, none⟩ = some (.int .i64 a) := bce hb
  have a1 : w1.cell? ⟨w.heap.size, 1, none⟩ = some (.int .i64 b) := bce hb
  have a2 : w1.cell? ⟨w.heap.size, 2, none⟩ = some (.int .i64 c) := bce hb
  have a3 : w1.cell? ⟨w.heap.size, 3, none⟩ = some (.int .i64 d) := bce hb
  have a4 : w1.cell? ⟨w.heap.size, 4, none⟩ = some (.int .i64 e) := bce hb
  have a5 : w1.cell? ⟨w.heap.size, 5, none⟩ = some (.int .i64 f) := bce hb
  have b0 : w1.cell? ⟨w.heap.size + 1, 0, none⟩ = some (.int .i64 g) := bce hb
  have b1 : w1.cell? ⟨w.heap.size + 1, 1, none⟩ = some (.int .i64 h) := bce hb
  have b2 : w1.cell? ⟨w.heap.size + 1, 2, none⟩ = some (.int .i64 i) := bce hb
  have b3 : w1.cell? ⟨w.heap.size + 1, 3, none⟩ = some (.int .i64 j) := bce hb
  have b4 : w1.cell? ⟨w.heap.size + 1, 4, none⟩ = some (.int .i64 k) := bce hb
  have b5 : w1.cell? ⟨w.heap.size + 1, 5, none⟩ = some (.int .i64 l) := bce hb
  have c0 : w1.cell? ⟨w.heap.size + 1 + 1, 0, none⟩ = some (.int .i64 0) := bce hb
  have c1 : w1.cell? ⟨w.heap.size + 1 + 1, 1, none⟩ = some (.int .i64 0) := bce hb
  have c2 : w1.cell? ⟨w.heap.size + 1 + 1, 2, none⟩ = some (.int .i64 0) := bce hb
  have c3 : w1.cell? ⟨w.heap.size + 1 + 1, 3, none⟩ = some (.int .i64 0) := bce hb
  have c4 : w1.cell? ⟨w.heap.size + 1 + 1, 4, none⟩ = some (.int .i64 0) := bce hb
  have c5 : w1.cell? ⟨w.heap.size + 1 + 1, 5, none⟩ = some (.int .i64 0) := bce hb
  have cf0 : w1.frozen? ⟨w.heap.size + 1 + 1, 0, none⟩ = false := bfz hb
  have cf1 : w1.frozen? ⟨w.heap.size + 1 + 1, 1, none⟩ = false := bfz hb
  have cf2 : w1.frozen? ⟨w.heap.size + 1 + 1, 2, none⟩ = false := bfz hb
  have cf3 : w1.frozen? ⟨w.heap.size + 1 + 1, 3, none⟩ = false := bfz hb
  have cf4 : w1.frozen? ⟨w.heap.size + 1 + 1, 4, none⟩ = false := bfz hb
  have cf5 : w1.frozen? ⟨w.heap.size + 1 + 1, 5, none⟩ = false := bfz hb
  clear hb
  have zy0_1 : w.heap.size < w1.heap.size := by omega
  have zy1_1 : w.heap.size + 1 < w1.heap.size := by omega
  have zy2_1 : w.heap.size + 1 + 1 < w1.heap.size := by omega
  go_wp2_with fail
  with_reducible refine (AN _).mono ?_
  rintro e w2 ⟨rfl, hb⟩
  have HB2 : Below w.heap.size w w2 := by
    refine Below.trans ?_ (hb.mono ?_)
    · exact kb
    · first | omega | (simp <;> omega)
  have zs2 : w1.heap.size + 0 < w2.heap.size + 1 := by have := hb.size; (try simp at this); omega
  replace a0 : w2.cell? ⟨w.heap.size, 0, none⟩ = some (.int .i64 a) := bce hb
  replace a1 : w2.cell? ⟨w.heap.size, 1, none⟩ = some (.int .i64 b) := bce hb
  replace a2 : w2.cell? ⟨w.heap.size, 2, none⟩ = some (.int .i64 c) := bce hb
  replace a3 : w2.cell? ⟨w.heap.size, 3, none⟩ = some (.int .i64 d) := bce hb
  replace a4 : w2.cell? ⟨w.heap.size, 4, none⟩ = some (.int .i64 e) := bce hb
  replace a5 : w2.cell? ⟨w.heap.size, 5, none⟩ = some (.int .i64 f) := bce hb
  replace b0 : w2.cell? ⟨w.heap.size + 1, 0, none⟩ = some (.int .i64 g) := bce hb
  replace b1 : w2.cell? ⟨w.heap.size + 1, 1, none⟩ = some (.int .i64 h) := bce hb
  replace b2 : w2.cell? ⟨w.heap.size + 1, 2, none⟩ = some (.int .i64 i) := bce hb
  replace b3 : w2.cell? ⟨w.heap.size + 1, 3, none⟩ = some (.int .i64 j) := bce hb
  replace b4 : w2.cell? ⟨w.heap.size + 1, 4, none⟩ = some (.int .i64 k) := bce hb
  replace b5 : w2.cell? ⟨w.heap.size + 1, 5, none⟩ = some (.int .i64 l) := bce hb
  replace c0 : w2.cell? ⟨w.heap.size + 1 + 1, 0, none⟩ = some (.int .i64 0) := bce hb
  replace c1 : w2.cell? ⟨w.heap.size + 1 + 1, 1, none⟩ = some (.int .i64 0) := bce hb
  replace c2 : w2.cell? ⟨w.heap.size + 1 + 1, 2, none⟩ = some (.int .i64 0) := bce hb
  replace c3 : w2.cell? ⟨w.heap.size + 1 + 1, 3, none⟩ = some (.int .i64 0) := bce hb
  replace c4 : w2.cell? ⟨w.heap.size + 1 + 1, 4, none⟩ = some (.int .i64 0) := bce hb
  replace c5 : w2.cell? ⟨w.heap.size + 1 + 1, 5, none⟩ = some (.int .i64 0) := bce hb
  replace cf0 : w2.frozen? ⟨w.heap.size + 1 + 1, 0, none⟩ = false := bfz hb
  replace cf1 : w2.frozen? ⟨w.heap.size + 1 + 1, 1, none⟩ = false := bfz hb
  replace cf2 : w2.frozen? ⟨w.heap.size + 1 + 1, 2, none⟩ = false := bfz hb
  replace cf3 : w2.frozen? ⟨w.heap.size + 1 + 1, 3, none⟩ = false := bfz hb
  replace cf4 : w2.frozen? ⟨w.heap.size + 1 + 1, 4, none⟩ = false := bfz hb
  replace cf5 : w2.frozen? ⟨w.heap.size + 1 + 1, 5, none⟩ = false := bfz hb
  clear hb HB1
  have zy0_2 : w.heap.size < w2.heap.size := by omega
  have zy1_2 : w.heap.size + 1 < w2.heap.size := by omega
  have zy2_2 : w.heap.size + 1 + 1 < w2.heap.size := by omega
  go_wp2_with fail
  with_reducible refine (A1 _).mono ?_
  rintro e w3 ⟨rfl, hb⟩
  have HB3 : Below w.heap.size w w3 := by
    refine Below.trans ?_ (hb.mono ?_)
    · exact kb
    · first | omega | (simp <;> omega)
  have zs3 : w2.heap.size + 1 < w3.heap.size + 1 := by have := hb.size; (try simp at this); omega
  replace a0 : w3.cell? ⟨w.heap.size, 0, none⟩ = some (.int .i64 a) := bce hb
  replace a1 : w3.cell? ⟨w.heap.size, 1, none⟩ = some (.int .i64 b) := bce hb
  replace a2 : w3.cell? ⟨w.heap.size, 2, none⟩ = some (.int .i64 c) := bce hb
  replace a3 : w3.cell? ⟨w.heap.size, 3, none⟩ = some (.int .i64 d) := bce hb
  replace a4 : w3.cell? ⟨w.heap.size, 4, none⟩ = some (.int .i64 e) := bce hb
  replace a5 : w3.cell? ⟨w.heap.size, 5, none⟩ = some (.int .i64 f) := bce hb
  replace b0 : w3.cell? ⟨w.heap.size + 1, 0, none⟩ = some (.int .i64 g) := bce hb
  replace b1 : w3.cell? ⟨w.heap.size + 1, 1, none⟩ = some (.int .i64 h) := bce hb
  replace b2 : w3.cell? ⟨w.heap.size + 1, 2, none⟩ = some (.int .i64 i) := bce hb
  replace b3 : w3.cell? ⟨w.heap.size + 1, 3, none⟩ = some (.int .i64 j) := bce hb
  replace b4 : w3.cell? ⟨w.heap.size + 1, 4, none⟩ = some (.int .i64 k) := bce hb
  replace b5 : w3.cell? ⟨w.heap.size + 1, 5, none⟩ = some (.int .i64 l) := bce hb
  replace c0 : w3.cell? ⟨w.heap.size + 1 + 1, 0, none⟩ = some (.int .i64 0) := bce hb
  replace c1 : w3.cell? ⟨w.heap.size + 1 + 1, 1, none⟩ = some (.int .i64 0) := bce hb
  replace c2 : w3.cell? ⟨w.heap.size + 1 + 1, 2, none⟩ = some (.int .i64 0) := bce hb
  replace c3 : w3.cell? ⟨w.heap.size + 1 + 1, 3, none⟩ = some (.int .i64 0) := bce hb
  replace c4 : w3.cell? ⟨w.heap.size + 1 + 1, 4, none⟩ = some (.int .i64 0) := bce hb
  replace c5 : w3.cell? ⟨w.heap.size + 1 + 1, 5, none⟩ = some (.int .i64 0) := bce hb
  replace cf0 : w3.frozen? ⟨w.heap.size + 1 + 1, 0, none⟩ = false := bfz hb
  replace cf1 : w3.frozen? ⟨w.heap.size + 1 + 1, 1, none⟩ = false := bfz hb
  replace cf2 : w3.frozen? ⟨w.heap.size + 1 + 1, 2, none⟩ = false := bfz hb
  replace cf3 : w3.frozen? ⟨w.heap.size + 1 + 1, 3, none⟩ = false := bfz hb
  replace cf4 : w3.frozen? ⟨w.heap.size + 1 + 1, 4, none⟩ = false := bfz hb
  replace cf5 : w3.frozen? ⟨w.heap.size + 1 + 1, 5, none⟩ = false := bfz hb
  have r2_0 : w3.cell? ⟨w2.heap.size, 0, none⟩ = some (.int .i64 A) := bce hb
  have r2_1 : w3.cell? ⟨w2.heap.size, 1, none⟩ = some (.int .i64 b) := bce hb
  have r2_2 : w3.cell? ⟨w2.heap.size, 2, none⟩ = some (.int .i64 C) := bce hb
  have r2_3 : w3.cell? ⟨w2.heap.size, 3, none⟩ = some (.int .i64 d) := bce hb
  have r2_4 : w3.cell? ⟨w2.heap.size, 4, none⟩ = some (.int .i64 E0) := bce hb
  have r2_5 : w3.cell? ⟨w2.heap.size, 5, none⟩ = some (.int .i64 f) := bce hb
  clear hb HB2
  have zy0_3 : w.heap.size < w3.heap.size := by omega
  have zy1_3 : w.heap.size + 1 < w3.heap.size := by omega
  have zy2_3 : w.heap.size + 1 + 1 < w3.heap.size := by omega
  have zz_w2_3 : w2.heap.size < w3.heap.size := by omega
  go_wp2_with fail
  with_reducible refine (A2 _).mono ?_
  rintro e w4 ⟨rfl, hb⟩
  have HB4 : Below w.heap.size w w4 := by
    refine Below.trans ?_ (hb.mono ?_)
    · exact kb
    · first | omega | (simp <;> omega)
  have zs4 : w3.heap.size + 1 < w4.heap.size + 1 := by have := hb.size; (try simp at this); omega
  replace a0 : w4.cell? ⟨w.heap.size, 0, none⟩ = some (.int .i64 a) := bce hb
  replace a1 : w4.cell? ⟨w.heap.size, 1, none⟩ = some (.int .i64 b) := bce hb
  replace a2 : w4.cell? ⟨w.heap.size, 2, none⟩ = some (.int .i64 c) := bce hb
  replace a3 : w4.cell? ⟨w.heap.size, 3, none⟩ = some (.int .i64 d) := bce hb
  replace a4 : w4.cell? ⟨w.heap.size, 4, none⟩ = some (.int .i64 e) := bce hb
  replace a5 : w4.cell? ⟨w.heap.size, 5, none⟩ = some (.int .i64 f) := bce hb
  replace b0 : w4.cell? ⟨w.heap.size + 1, 0, none⟩ = some (.int .i64 g) := bce hb
  replace b1 : w4.cell? ⟨w.heap.size + 1, 1, none⟩ = some (.int .i64 h) := bce hb
  replace b2 : w4.cell? ⟨w.heap.size + 1, 2, none⟩ = some (.int .i64 i) := bce hb
  replace b3 : w4.cell? ⟨w.heap.size + 1, 3, none⟩ = some (.int .i64 j) := bce hb
  replace b4 : w4.cell? ⟨w.heap.size + 1, 4, none⟩ = some (.int .i64 k) := bce hb
  replace b5 : w4.cell? ⟨w.heap.size + 1, 5, none⟩ = some (.int .i64 l) := bce hb
  replace c0 : w4.cell? ⟨w.heap.size + 1 + 1, 0, none⟩ = some (.int .i64 0) := bce hb
  replace c1 : w4.cell? ⟨w.heap.size + 1 + 1, 1, none⟩ = some (.int .i64 0) := bce hb
  replace c2 : w4.cell? ⟨w.heap.size + 1 + 1, 2, none⟩ = some (.int .i64 0) := bce hb
  replace c3 : w4.cell? ⟨w.heap.size + 1 + 1, 3, none⟩ = some (.int .i64 0) := bce hb
  replace c4 : w4.cell? ⟨w.heap.size + 1 + 1, 4, none⟩ = some (.int .i64 0) := bce hb
  replace c5 : w4.cell? ⟨w.heap.size + 1 + 1, 5, none⟩ = some (.int .i64 0) := bce hb
  replace cf0 : w4.frozen? ⟨w.heap.size + 1 + 1, 0, none⟩ = false := bfz hb
  replace cf1 : w4.frozen? ⟨w.heap.size + 1 + 1, 1, none⟩ = false := bfz hb
  replace cf2 : w4.frozen? ⟨w.heap.size + 1 + 1, 2, none⟩ = false := bfz hb
  replace cf3 : w4.frozen? ⟨w.heap.size + 1 + 1, 3, none⟩ = false := bfz hb
  replace cf4 : w4.frozen? ⟨w.heap.size + 1 + 1, 4, none⟩ = false := bfz hb
  replace cf5 : w4.frozen? ⟨w.heap.size + 1 + 1, 5, none⟩ = false := bfz hb
  replace r2_0 : w4.cell? ⟨w2.heap.size, 0, none⟩ = some (.int .i64 A) := bce hb
  replace r2_1 : w4.cell? ⟨w2.heap.size, 1, none⟩ = some (.int .i64 b) := bce hb
  replace r2_2 : w4.cell? ⟨w2.heap.size, 2, none⟩ = some (.int .i64 C) := bce hb
  replace r2_3 : w4.cell? ⟨w2.heap.size, 3, none⟩ = some (.int .i64 d) := bce hb
  replace r2_4 : w4.cell? ⟨w2.heap.size, 4, none⟩ = some (.int .i64 E0) := bce hb
  replace r2_5 : w4.cell? ⟨w2.heap.size, 5, none⟩ = some (.int .i64 f) := bce hb
  have r3_0 : w4.cell? ⟨w3.heap.size, 0, none⟩ = some (.int .i64 x1) := bce hb
  have r3_1 : w4.cell? ⟨w3.heap.size, 1, none⟩ = some (.int .i64 x2) := bce hb
  clear hb HB3
  have zy0_4 : w.heap.size < w4.heap.size := by omega
  have zy1_4 : w.heap.size + 1 < w4.heap.size := by omega
  have zy2_4 : w.heap.size + 1 + 1 < w4.heap.size := by omega
  have zz_w2_4 : w2.heap.size < w4.heap.size := by omega
  have zz_w3_4 : w3.heap.size < w4.heap.size := by omega
  go_wp2_with fail
  with_reducible refine (A3 _).mono ?_
  rintro e w5 ⟨rfl, hb⟩
  have HB5 : Below w.heap.size w w5 := by
    refine Below.trans ?_ (hb.mono ?_)
    · exact kb
    · first | omega | (simp <;> omega)
  have zs5 : w4.heap.size + 1 < w5.heap.size + 1 := by have := hb.size; (try simp at this); omega
  replace a0 : w5.cell? ⟨w.heap.size, 0, none⟩ = some (.int .i64 a) := bce hb
  replace a1 : w5.cell? ⟨w.heap.size, 1, none⟩ = some (.int .i64 b) := bce hb
  replace a2 : w5.cell? ⟨w.heap.size, 2, none⟩ = some (.int .i64 c) := bce hb
  replace a3 : w5.cell? ⟨w.heap.size, 3, none⟩ = some (.int .i64 d) := bce hb
  replace a4 : w5.cell? ⟨w.heap.size, 4, none⟩ = some (.int .i64 e) := bce hb
  replace a5 : w5.cell? ⟨w.heap.size, 5, none⟩ = some (.int .i64 f) := bce hb
  replace b0 : w5.cell? ⟨w.heap.size + 1, 0, none⟩ = some (.int .i64 g) := bce hb
  replace b1 : w5.cell? ⟨w.heap.size + 1, 1, none⟩ = some (.int .i64 h) := bce hb
  replace b2 : w5.cell? ⟨w.heap.size + 1, 2, none⟩ = some (.int .i64 i) := bce hb
  replace b3 : w5.cell? ⟨w.heap.size + 1, 3, none⟩ = some (.int .i64 j) := bce hb
  replace b4 : w5.cell? ⟨w.heap.size + 1, 4, none⟩ = some (.int .i64 k) := bce hb
  replace b5 : w5.cell? ⟨w.heap.size + 1, 5, none⟩ = some (.int .i64 l) := bce hb
  replace c0 : w5.cell? ⟨w.heap.size + 1 + 1, 0, none⟩ = some (.int .i64 0) := bce hb
  replace c1 : w5.cell? ⟨w.heap.size + 1 + 1, 1, none⟩ = some (.int .i64 0) := bce hb
  replace c2 : w5.cell? ⟨w.heap.size + 1 + 1, 2, none⟩ = some (.int .i64 0) := bce hb
  replace c3 : w5.cell? ⟨w.heap.size + 1 + 1, 3, none⟩ = some (.int .i64 0) := bce hb
  replace c4 : w5.cell? ⟨w.heap.size + 1 + 1, 4, none⟩ = some (.int .i64 0) := bce hb
  replace c5 : w5.cell? ⟨w.heap.size + 1 + 1, 5, none⟩ = some (.int .i64 0) := bce hb
  replace cf0 : w5.frozen? ⟨w.heap.size + 1 + 1, 0, none⟩ = false := bfz hb
  replace cf1 : w5.frozen? ⟨w.heap.size + 1 + 1, 1, none⟩ = false := bfz hb
  replace cf2 : w5.frozen? ⟨w.heap.size + 1 + 1, 2, none⟩ = false := bfz hb
  replace cf3 : w5.frozen? ⟨w.heap.size + 1 + 1, 3, none⟩ = false := bfz hb
  replace cf4 : w5.frozen? ⟨w.heap.size + 1 + 1, 4, none⟩ = false := bfz hb
  replace cf5 : w5.frozen? ⟨w.heap.size + 1 + 1, 5, none⟩ = false := bfz hb
  replace r2_0 : w5.cell? ⟨w2.heap.size, 0, none⟩ = some (.int .i64 A) := bce hb
  replace r2_1 : w5.cell? ⟨w2.heap.size, 1, none⟩ = some (.int .i64 b) := bce hb
  replace r2_2 : w5.cell? ⟨w2.heap.size, 2, none⟩ = some (.int .i64 C) := bce hb
  replace r2_3 : w5.cell? ⟨w2.heap.size, 3, none⟩ = some (.int .i64 d) := bce hb
  replace r2_4 : w5.cell? ⟨w2.heap.size, 4, none⟩ = some (.int .i64 E0) := bce hb
  replace r2_5 : w5.cell? ⟨w2.heap.size, 5, none⟩ = some (.int .i64 f) := bce hb
  replace r3_0 : w5.cell? ⟨w3.heap.size, 0, none⟩ = some (.int .i64 x1) := bce hb
  replace r3_1 : w5.cell? ⟨w3.heap.size, 1, none⟩ = some (.int .i64 x2) := bce hb
  have r4_0 : w5.cell? ⟨w4.heap.size, 0, none⟩ = some (.int .i64 y1) := bce hb
  have r4_1 : w5.cell? ⟨w4.heap.size, 1, none⟩ = some (.int .i64 y2) := bce hb
  clear hb HB4
  have zy0_5 : w.heap.size < w5.heap.size := by omega
  have zy1_5 : w.heap.size + 1 < w5.heap.size := by omega
  have zy2_5 : w.heap.size + 1 + 1 < w5.heap.size := by omega
  have zz_w2_5 : w2.heap.size < w5.heap.size := by omega
  have zz_w3_5 : w3.heap.size < w5.heap.size := by omega
  have zz_w4_5 : w4.heap.size < w5.heap.size := by omega
  clear A0 AN A1 A2 A3 a0 a1 a2 a3 a4 a5 b0 b1 b2 b3 b4 b5
  go_wp2_with fail
  go_region_held3 (fun w' => w'.cell? ⟨w3.heap.size, 0, none⟩ = some (.int .i64 x1) ∧ w'.cell? ⟨w3.heap.size, 1, none⟩ = some (.int .i64 x2) ∧ w'.cell? ⟨w4.heap.size, 0, none⟩ = some (.int .i64 y1) ∧ w'.cell? ⟨w4.heap.size, 1, none⟩ = some (.int .i64 y2) ∧ w'.cell? ⟨w5.heap.size, 0, none⟩ = some (.int .i64 z1) ∧ w'.cell? ⟨w5.heap.size, 1, none⟩ = some (.int .i64 z2)) (simp (maxDischargeDepth := 8) [go_sem, kp, *])
    ((first | (go_at_call 56; with_reducible refine (F1 _).mono ?_; rintro e w' ⟨rfl, rfl⟩) | (go_at_call 55; with_reducible refine (F2 _).mono ?_; rintro e w' ⟨rfl, hb⟩; obtain ⟨l9, d9, rfl⟩ := toExt hb; clear hb)))
  all_goals (try go_wp2)
  all_goals refine bodyPost_ret (by simp [results, Try.results58, go_sem, ext_cell, kp, *]; try rfl) rfl ?_
  all_goals exact ⟨rfl, kb⟩

set_option maxHeartbeats 800000 in
theorem ref2_cross_bad (a b c d e f g h i j k l : Int) (p1 : okC a b) (p2 : okC c d) (p3 : okC e f) (q1 : okC g h) (q2 : okC i j) (q3 : okC k l) (ho : ¬ (okV a b c d e f = true ∧ okV g h i j k l = true)) (w : World) :
    Calls Try.prog 58 #[.agg #[.int .i64 a, .int .i64 b, .int .i64 c, .int .i64 d, .int .i64 e, .int .i64 f], .agg #[.int .i64 g, .int .i64 h, .int .i64 i, .int .i64 j, .int .i64 k, .int .i64 l]] w fun x w' => x = .returned (.tuple #[.agg #[.int .i64 0, .int .i64 0, .int .i64 0, .int .i64 0, .int .i64 0, .int .i64 0], .int .i64 8]) ∧ Below w.heap.size w w' := by
  have A0 := fun w => ref2_Both a b c d e f g h i j k l p1 p2 p3 q1 q2 q3 w
  rw [both8 ho] at A0
  clear p1 p2 p3 q1 q2 q3 ho
  have xR := xRul
  go_enter Try.func58, Try.ntmps58
  go_wp2_with fail
  refine (A0 _).mono ?_
  rintro e w2c ⟨rfl, hb2c⟩
  obtain ⟨l2c, d2c, rfl⟩ := toExt hb2c
  clear hb2c
  go_wp2
  refine bodyPost_ret (by simp [results, Try.results58, go_sem, ext_cell, kp, *]; try rfl) rfl ?_
  exact ⟨rfl, kb⟩

/-- P2.2: cross products of the reference. -/
theorem ref2_Cross (a b c d e f g h i j k l : Int) (p1 : okC a b) (p2 : okC c d) (p3 : okC e f) (q1 : okC g h) (q2 : okC i j) (q3 : okC k l) (w : World) :
    Calls Try.prog 58 #[.agg #[.int .i64 a, .int .i64 b, .int .i64 c, .int .i64 d, .int .i64 e, .int .i64 f], .agg #[.int .i64 g, .int .i64 h, .int .i64 i, .int .i64 j, .int .i64 k, .int .i64 l]] w fun x w' => x = .returned (.tuple #[.agg #[.int .i64 (vz (crE a b c d e f g h i j k l) (twN c d k l (-e) f i j)), .int .i64 (vz (crE a b c d e f g h i j k l) (twD c d k l (-e) f i j)), .int .i64 (vz (crE a b c d e f g h i j k l) (twN e f g h (-a) b k l)), .int .i64 (vz (crE a b c d e f g h i j k l) (twD e f g h (-a) b k l)), .int .i64 (vz (crE a b c d e f g h i j k l) (twN a b i j (-c) d g h)), .int .i64 (vz (crE a b c d e f g h i j k l) (twD a b i j (-c) d g h))], .int .i64 (crE a b c d e f g h i j k l)]) ∧ Below w.heap.size w w' := by
  by_cases ho : okV a b c d e f = true ∧ okV g h i j k l = true
  · rw [crE, if_pos ho]; exact ref2_cross_ok a b c d e f g h i j k l ho.1 ho.2 w
  · rw [crE, if_neg ho]; exact ref2_cross_bad a b c d e f g h i j k l p1 p2 p3 q1 q2 q3 ho w
end Go.Proofs.Ytlijkebdaalldaa
