/-
  VecKept, walked: its calls by contracts.
-/
import Derived.Lib.Hide
import Derived.Test.YtlijkebdaalldaaKu
import Derived.Test.YtlijkebdaalldaaMA
import Derived.Test.YtlijkebdaalldaaWlo
namespace Go.Proofs.Ytlijkebdaalldaa
open Go.RowKit
set_option linter.unusedVariables false
set_option linter.unusedSimpArgs false

set_option maxRecDepth 100000 in
set_option maxHeartbeats 16000000 in
theorem kept_out_a (V W : Nat → Int) (axis n d : Int) (H : ∀ w : World, Calls Try.prog 29 #[.agg #[.int .i64 (V 0), .int .i64 (V 1), .int .i64 (V 2), .int .i64 (V 3), .int .i64 (V 4), .int .i64 (V 5)], .agg #[.int .i64 (W 0), .int .i64 (W 1), .int .i64 (W 2), .int .i64 (W 3), .int .i64 (W 4), .int .i64 (W 5)], .agg #[.int .i64 n, .int .i64 d]] w fun x w' => x = .returned (.bool false) ∧ Below w.heap.size w w') (HA : ∀ w : World, Calls Try.prog 22 #[] w fun x w' => x = .returned (.bool true) ∧ Below w.heap.size w w')  (w : World) :
    Calls Try.prog 5 #[.agg #[.int .i64 (V 0), .int .i64 (V 1), .int .i64 (V 2), .int .i64 (V 3), .int .i64 (V 4), .int .i64 (V 5)], .agg #[.int .i64 (W 0), .int .i64 (W 1), .int .i64 (W 2), .int .i64 (W 3), .int .i64 (W 4), .int .i64 (W 5)], .int .i64 axis, .agg #[.int .i64 n, .int .i64 d]] w fun x w' => x = .returned (.bool true) ∧ Below w.heap.size w w' := by
  have SM := Lib.hid H
  have AL := Lib.hid HA
  clear H HA
  have dAl := dAl; have dSt := dSt
  go_enter Try.func5, Try.ntmps5
  go_upto_region 1 with fail
  refine opq (fun wx => Cs wx (w.heap.size) 6 V ∧ Cs wx (w.heap.size + 1) 6 W ∧ Cs wx (w.heap.size + 1 + 1) 2 (fq2 n d) ∧ w.heap.size + 1 + 1 < wx.heap.size ∧ Below w.heap.size w wx) ?_ ?_
  · exact ⟨cs_alloc _ (cs_alloc _ (cs_new rfl (arrV V)) (by simp)) (by simp <;> omega), cs_alloc _ (cs_new (by simp) (arrV W)) (by simp), cs_new (by simp) (arq2 n d), by simp, kb⟩
  rintro w0 ⟨cV, cW, cT, zs, HBa⟩
  have hV : ∀ o, o < 6 → w0.cell? ⟨w.heap.size, o, none⟩ = some (.int .i64 (V o)) := cV
  have hW : ∀ o, o < 6 → w0.cell? ⟨w.heap.size + 1, o, none⟩ = some (.int .i64 (W o)) := cW
  have hT : ∀ o, o < 2 → w0.cell? ⟨w.heap.size + 1 + 1, o, none⟩ = some (.int .i64 (fq2 n d o)) := cT
  have e0 : fq2 n d 0 = n := rfl
  have e1 : fq2 n d 1 = d := rfl
  have AC := SM.out
  go_wp2_with fail
  with_reducible refine (AC _).mono ?_
  rintro e v0 ⟨rfl, hb⟩
  clear AC hV hW hT
  replace cV := cs_below cV hb (by omega)
  replace cW := cs_below cW hb (by omega)
  replace cT := cs_below cT hb (by omega)
  replace HBa := HBa.trans (hb.mono (by omega))
  replace zs := Nat.lt_of_lt_of_le zs hb.size
  clear hb
  have hT : ∀ o, o < 2 → v0.cell? ⟨w.heap.size + 1 + 1, o, none⟩ = some (.int .i64 (fq2 n d o)) := cT
  have AC := AL.out
  go_wp2_with fail
  with_reducible refine (AC _).mono ?_
  rintro e v1 ⟨rfl, hb⟩
  clear AC hT
  go_wp2_with fail
  go_ret
  exact ⟨rfl, HBa.trans (hb.mono (by omega))⟩
set_option maxRecDepth 100000 in
set_option maxHeartbeats 16000000 in
theorem kept_out_b (V W : Nat → Int) (axis n d : Int) (H : ∀ w : World, Calls Try.prog 29 #[.agg #[.int .i64 (V 0), .int .i64 (V 1), .int .i64 (V 2), .int .i64 (V 3), .int .i64 (V 4), .int .i64 (V 5)], .agg #[.int .i64 (W 0), .int .i64 (W 1), .int .i64 (W 2), .int .i64 (W 3), .int .i64 (W 4), .int .i64 (W 5)], .agg #[.int .i64 n, .int .i64 d]] w fun x w' => x = .returned (.bool true) ∧ Below w.heap.size w w') (HA : ∀ w : World, Calls Try.prog 22 #[] w fun x w' => x = .returned (.bool true) ∧ Below w.heap.size w w') (f1 : (axis < 0) = True) (w : World) :
    Calls Try.prog 5 #[.agg #[.int .i64 (V 0), .int .i64 (V 1), .int .i64 (V 2), .int .i64 (V 3), .int .i64 (V 4), .int .i64 (V 5)], .agg #[.int .i64 (W 0), .int .i64 (W 1), .int .i64 (W 2), .int .i64 (W 3), .int .i64 (W 4), .int .i64 (W 5)], .int .i64 axis, .agg #[.int .i64 n, .int .i64 d]] w fun x w' => x = .returned (.bool true) ∧ Below w.heap.size w w' := by
  have SM := Lib.hid H
  have AL := Lib.hid HA
  clear H HA
  have dAl := dAl; have dSt := dSt
  go_enter Try.func5, Try.ntmps5
  go_upto_region 1 with fail
  refine opq (fun wx => Cs wx (w.heap.size) 6 V ∧ Cs wx (w.heap.size + 1) 6 W ∧ Cs wx (w.heap.size + 1 + 1) 2 (fq2 n d) ∧ w.heap.size + 1 + 1 < wx.heap.size ∧ Below w.heap.size w wx) ?_ ?_
  · exact ⟨cs_alloc _ (cs_alloc _ (cs_new rfl (arrV V)) (by simp)) (by simp <;> omega), cs_alloc _ (cs_new (by simp) (arrV W)) (by simp), cs_new (by simp) (arq2 n d), by simp, kb⟩
  rintro w0 ⟨cV, cW, cT, zs, HBa⟩
  have hV : ∀ o, o < 6 → w0.cell? ⟨w.heap.size, o, none⟩ = some (.int .i64 (V o)) := cV
  have hW : ∀ o, o < 6 → w0.cell? ⟨w.heap.size + 1, o, none⟩ = some (.int .i64 (W o)) := cW
  have hT : ∀ o, o < 2 → w0.cell? ⟨w.heap.size + 1 + 1, o, none⟩ = some (.int .i64 (fq2 n d o)) := cT
  have e0 : fq2 n d 0 = n := rfl
  have e1 : fq2 n d 1 = d := rfl
  have AC := SM.out
  go_wp2_with fail
  with_reducible refine (AC _).mono ?_
  rintro e v0 ⟨rfl, hb⟩
  clear AC hV hW hT
  replace cV := cs_below cV hb (by omega)
  replace cW := cs_below cW hb (by omega)
  replace cT := cs_below cT hb (by omega)
  replace HBa := HBa.trans (hb.mono (by omega))
  replace zs := Nat.lt_of_lt_of_le zs hb.size
  clear hb
  have hT : ∀ o, o < 2 → v0.cell? ⟨w.heap.size + 1 + 1, o, none⟩ = some (.int .i64 (fq2 n d o)) := cT
  have AC := AL.out
  go_wp2_with fail
  with_reducible refine (AC _).mono ?_
  rintro e v1 ⟨rfl, hb⟩
  clear AC hT
  go_wp2_with fail
  go_ret
  exact ⟨rfl, HBa.trans (hb.mono (by omega))⟩
set_option maxRecDepth 100000 in
set_option maxHeartbeats 16000000 in
theorem kept_out_c (V W : Nat → Int) (axis n d : Int) (H : ∀ w : World, Calls Try.prog 29 #[.agg #[.int .i64 (V 0), .int .i64 (V 1), .int .i64 (V 2), .int .i64 (V 3), .int .i64 (V 4), .int .i64 (V 5)], .agg #[.int .i64 (W 0), .int .i64 (W 1), .int .i64 (W 2), .int .i64 (W 3), .int .i64 (W 4), .int .i64 (W 5)], .agg #[.int .i64 n, .int .i64 d]] w fun x w' => x = .returned (.bool true) ∧ Below w.heap.size w w') (HA : ∀ w : World, Calls Try.prog 22 #[] w fun x w' => x = .returned (.bool true) ∧ Below w.heap.size w w') (f1 : (axis < 0) = False) (f2 : (2 < axis) = True) (w : World) :
    Calls Try.prog 5 #[.agg #[.int .i64 (V 0), .int .i64 (V 1), .int .i64 (V 2), .int .i64 (V 3), .int .i64 (V 4), .int .i64 (V 5)], .agg #[.int .i64 (W 0), .int .i64 (W 1), .int .i64 (W 2), .int .i64 (W 3), .int .i64 (W 4), .int .i64 (W 5)], .int .i64 axis, .agg #[.int .i64 n, .int .i64 d]] w fun x w' => x = .returned (.bool true) ∧ Below w.heap.size w w' := by
  have SM := Lib.hid H
  have AL := Lib.hid HA
  clear H HA
  have dAl := dAl; have dSt := dSt
  go_enter Try.func5, Try.ntmps5
  go_upto_region 1 with fail
  refine opq (fun wx => Cs wx (w.heap.size) 6 V ∧ Cs wx (w.heap.size + 1) 6 W ∧ Cs wx (w.heap.size + 1 + 1) 2 (fq2 n d) ∧ w.heap.size + 1 + 1 < wx.heap.size ∧ Below w.heap.size w wx) ?_ ?_
  · exact ⟨cs_alloc _ (cs_alloc _ (cs_new rfl (arrV V)) (by simp)) (by simp <;> omega), cs_alloc _ (cs_new (by simp) (arrV W)) (by simp), cs_new (by simp) (arq2 n d), by simp, kb⟩
  rintro w0 ⟨cV, cW, cT, zs, HBa⟩
  have hV : ∀ o, o < 6 → w0.cell? ⟨w.heap.size, o, none⟩ = some (.int .i64 (V o)) := cV
  have hW : ∀ o, o < 6 → w0.cell? ⟨w.heap.size + 1, o, none⟩ = some (.int .i64 (W o)) := cW
  have hT : ∀ o, o < 2 → w0.cell? ⟨w.heap.size + 1 + 1, o, none⟩ = some (.int .i64 (fq2 n d o)) := cT
  have e0 : fq2 n d 0 = n := rfl
  have e1 : fq2 n d 1 = d := rfl
  have AC := SM.out
  go_wp2_with fail
  with_reducible refine (AC _).mono ?_
  rintro e v0 ⟨rfl, hb⟩
  clear AC hV hW hT
  replace cV := cs_below cV hb (by omega)
  replace cW := cs_below cW hb (by omega)
  replace cT := cs_below cT hb (by omega)
  replace HBa := HBa.trans (hb.mono (by omega))
  replace zs := Nat.lt_of_lt_of_le zs hb.size
  clear hb
  have hT : ∀ o, o < 2 → v0.cell? ⟨w.heap.size + 1 + 1, o, none⟩ = some (.int .i64 (fq2 n d o)) := cT
  have AC := AL.out
  go_wp2_with fail
  with_reducible refine (AC _).mono ?_
  rintro e v1 ⟨rfl, hb⟩
  clear AC hT
  go_wp2_with fail
  go_ret
  exact ⟨rfl, HBa.trans (hb.mono (by omega))⟩
set_option maxRecDepth 100000 in
set_option maxHeartbeats 16000000 in
theorem kept_out_d (V W : Nat → Int) (axis n d : Int) (H : ∀ w : World, Calls Try.prog 29 #[.agg #[.int .i64 (V 0), .int .i64 (V 1), .int .i64 (V 2), .int .i64 (V 3), .int .i64 (V 4), .int .i64 (V 5)], .agg #[.int .i64 (W 0), .int .i64 (W 1), .int .i64 (W 2), .int .i64 (W 3), .int .i64 (W 4), .int .i64 (W 5)], .agg #[.int .i64 n, .int .i64 d]] w fun x w' => x = .returned (.bool true) ∧ Below w.heap.size w w') (HA : ∀ w : World, Calls Try.prog 22 #[] w fun x w' => x = .returned (.bool true) ∧ Below w.heap.size w w') (f1 : (axis < 0) = False) (f2 : (2 < axis) = False) (f3 : (20 < n) = True) (w : World) :
    Calls Try.prog 5 #[.agg #[.int .i64 (V 0), .int .i64 (V 1), .int .i64 (V 2), .int .i64 (V 3), .int .i64 (V 4), .int .i64 (V 5)], .agg #[.int .i64 (W 0), .int .i64 (W 1), .int .i64 (W 2), .int .i64 (W 3), .int .i64 (W 4), .int .i64 (W 5)], .int .i64 axis, .agg #[.int .i64 n, .int .i64 d]] w fun x w' => x = .returned (.bool true) ∧ Below w.heap.size w w' := by
  have SM := Lib.hid H
  have AL := Lib.hid HA
  clear H HA
  have dAl := dAl; have dSt := dSt
  go_enter Try.func5, Try.ntmps5
  go_upto_region 1 with fail
  refine opq (fun wx => Cs wx (w.heap.size) 6 V ∧ Cs wx (w.heap.size + 1) 6 W ∧ Cs wx (w.heap.size + 1 + 1) 2 (fq2 n d) ∧ w.heap.size + 1 + 1 < wx.heap.size ∧ Below w.heap.size w wx) ?_ ?_
  · exact ⟨cs_alloc _ (cs_alloc _ (cs_new rfl (arrV V)) (by simp)) (by simp <;> omega), cs_alloc _ (cs_new (by simp) (arrV W)) (by simp), cs_new (by simp) (arq2 n d), by simp, kb⟩
  rintro w0 ⟨cV, cW, cT, zs, HBa⟩
  have hV : ∀ o, o < 6 → w0.cell? ⟨w.heap.size, o, none⟩ = some (.int .i64 (V o)) := cV
  have hW : ∀ o, o < 6 → w0.cell? ⟨w.heap.size + 1, o, none⟩ = some (.int .i64 (W o)) := cW
  have hT : ∀ o, o < 2 → w0.cell? ⟨w.heap.size + 1 + 1, o, none⟩ = some (.int .i64 (fq2 n d o)) := cT
  have e0 : fq2 n d 0 = n := rfl
  have e1 : fq2 n d 1 = d := rfl
  have AC := SM.out
  go_wp2_with fail
  with_reducible refine (AC _).mono ?_
  rintro e v0 ⟨rfl, hb⟩
  clear AC hV hW hT
  replace cV := cs_below cV hb (by omega)
  replace cW := cs_below cW hb (by omega)
  replace cT := cs_below cT hb (by omega)
  replace HBa := HBa.trans (hb.mono (by omega))
  replace zs := Nat.lt_of_lt_of_le zs hb.size
  clear hb
  have hT : ∀ o, o < 2 → v0.cell? ⟨w.heap.size + 1 + 1, o, none⟩ = some (.int .i64 (fq2 n d o)) := cT
  have AC := AL.out
  go_wp2_with fail
  with_reducible refine (AC _).mono ?_
  rintro e v1 ⟨rfl, hb⟩
  clear AC hT
  go_wp2_with fail
  go_ret
  exact ⟨rfl, HBa.trans (hb.mono (by omega))⟩
set_option maxRecDepth 100000 in
set_option maxHeartbeats 16000000 in
theorem kept_out_e (V W : Nat → Int) (axis n d : Int) (H : ∀ w : World, Calls Try.prog 29 #[.agg #[.int .i64 (V 0), .int .i64 (V 1), .int .i64 (V 2), .int .i64 (V 3), .int .i64 (V 4), .int .i64 (V 5)], .agg #[.int .i64 (W 0), .int .i64 (W 1), .int .i64 (W 2), .int .i64 (W 3), .int .i64 (W 4), .int .i64 (W 5)], .agg #[.int .i64 n, .int .i64 d]] w fun x w' => x = .returned (.bool true) ∧ Below w.heap.size w w') (HA : ∀ w : World, Calls Try.prog 22 #[] w fun x w' => x = .returned (.bool true) ∧ Below w.heap.size w w') (f1 : (axis < 0) = False) (f2 : (2 < axis) = False) (f3 : (20 < n) = False) (f4 : (n < -20) = True) (w : World) :
    Calls Try.prog 5 #[.agg #[.int .i64 (V 0), .int .i64 (V 1), .int .i64 (V 2), .int .i64 (V 3), .int .i64 (V 4), .int .i64 (V 5)], .agg #[.int .i64 (W 0), .int .i64 (W 1), .int .i64 (W 2), .int .i64 (W 3), .int .i64 (W 4), .int .i64 (W 5)], .int .i64 axis, .agg #[.int .i64 n, .int .i64 d]] w fun x w' => x = .returned (.bool true) ∧ Below w.heap.size w w' := by
  have SM := Lib.hid H
  have AL := Lib.hid HA
  clear H HA
  have dAl := dAl; have dSt := dSt
  go_enter Try.func5, Try.ntmps5
  go_upto_region 1 with fail
  refine opq (fun wx => Cs wx (w.heap.size) 6 V ∧ Cs wx (w.heap.size + 1) 6 W ∧ Cs wx (w.heap.size + 1 + 1) 2 (fq2 n d) ∧ w.heap.size + 1 + 1 < wx.heap.size ∧ Below w.heap.size w wx) ?_ ?_
  · exact ⟨cs_alloc _ (cs_alloc _ (cs_new rfl (arrV V)) (by simp)) (by simp <;> omega), cs_alloc _ (cs_new (by simp) (arrV W)) (by simp), cs_new (by simp) (arq2 n d), by simp, kb⟩
  rintro w0 ⟨cV, cW, cT, zs, HBa⟩
  have hV : ∀ o, o < 6 → w0.cell? ⟨w.heap.size, o, none⟩ = some (.int .i64 (V o)) := cV
  have hW : ∀ o, o < 6 → w0.cell? ⟨w.heap.size + 1, o, none⟩ = some (.int .i64 (W o)) := cW
  have hT : ∀ o, o < 2 → w0.cell? ⟨w.heap.size + 1 + 1, o, none⟩ = some (.int .i64 (fq2 n d o)) := cT
  have e0 : fq2 n d 0 = n := rfl
  have e1 : fq2 n d 1 = d := rfl
  have AC := SM.out
  go_wp2_with fail
  with_reducible refine (AC _).mono ?_
  rintro e v0 ⟨rfl, hb⟩
  clear AC hV hW hT
  replace cV := cs_below cV hb (by omega)
  replace cW := cs_below cW hb (by omega)
  replace cT := cs_below cT hb (by omega)
  replace HBa := HBa.trans (hb.mono (by omega))
  replace zs := Nat.lt_of_lt_of_le zs hb.size
  clear hb
  have hT : ∀ o, o < 2 → v0.cell? ⟨w.heap.size + 1 + 1, o, none⟩ = some (.int .i64 (fq2 n d o)) := cT
  have AC := AL.out
  go_wp2_with fail
  with_reducible refine (AC _).mono ?_
  rintro e v1 ⟨rfl, hb⟩
  clear AC hT
  go_wp2_with fail
  go_ret
  exact ⟨rfl, HBa.trans (hb.mono (by omega))⟩
set_option maxRecDepth 100000 in
set_option maxHeartbeats 16000000 in
theorem kept_walk (V W T P Q F U : Nat → Int) (axis n d x1 x2 y1 y2 e1 e2 e3 e4 e5 e6 e7 : Int) (b : Bool) (f1 : (axis < 0) = False) (f2 : (2 < axis) = False) (f3 : (20 < n) = False) (f4 : (n < -20) = False)
    (hE : e1 = 0 ∨ e1 = 16) (hK : e1 = 0 → e2 = 0 → e3 = 0 → e4 = 0 → e5 = 0 → e6 = 0 → e7 = 0 → b = true ∧ x1 = y1 ∧ x2 = y2 ∧ ∀ o, o < 6 → U o = V o) (H : ∀ w : World, Calls Try.prog 29 #[.agg #[.int .i64 (V 0), .int .i64 (V 1), .int .i64 (V 2), .int .i64 (V 3), .int .i64 (V 4), .int .i64 (V 5)], .agg #[.int .i64 (W 0), .int .i64 (W 1), .int .i64 (W 2), .int .i64 (W 3), .int .i64 (W 4), .int .i64 (W 5)], .agg #[.int .i64 n, .int .i64 d]] w fun x w' => x = .returned (.bool true) ∧ Below w.heap.size w w') (HA : ∀ w : World, Calls Try.prog 22 #[] w fun x w' => x = .returned (.bool true) ∧ Below w.heap.size w w')
    (H0 : ∀ w : World, Calls Try.prog 9 #[.int .i64 axis, .agg #[.int .i64 n, .int .i64 d]] w fun x w' => x = .returned (.tuple #[.agg #[.int .i64 (T 0), .int .i64 (T 1), .int .i64 (T 2), .int .i64 (T 3), .int .i64 (T 4), .int .i64 (T 5), .int .i64 (T 6), .int .i64 (T 7), .int .i64 (T 8), .int .i64 (T 9), .int .i64 (T 10), .int .i64 (T 11), .int .i64 (T 12), .int .i64 (T 13), .int .i64 (T 14), .int .i64 (T 15), .int .i64 (T 16), .int .i64 (T 17)], .int .i64 0]) ∧ Below w.heap.size w w')
    (H1 : ∀ w : World, Calls Try.prog 13 #[.agg #[.int .i64 (T 0), .int .i64 (T 1), .int .i64 (T 2), .int .i64 (T 3), .int .i64 (T 4), .int .i64 (T 5), .int .i64 (T 6), .int .i64 (T 7), .int .i64 (T 8), .int .i64 (T 9), .int .i64 (T 10), .int .i64 (T 11), .int .i64 (T 12), .int .i64 (T 13), .int .i64 (T 14), .int .i64 (T 15), .int .i64 (T 16), .int .i64 (T 17)]] w fun x w' => x = .returned (.tuple #[.bool b, .int .i64 e1]) ∧ Below w.heap.size w w')
    (H2 : ∀ w : World, Calls Try.prog 10 #[.agg #[.int .i64 (T 0), .int .i64 (T 1), .int .i64 (T 2), .int .i64 (T 3), .int .i64 (T 4), .int .i64 (T 5), .int .i64 (T 6), .int .i64 (T 7), .int .i64 (T 8), .int .i64 (T 9), .int .i64 (T 10), .int .i64 (T 11), .int .i64 (T 12), .int .i64 (T 13), .int .i64 (T 14), .int .i64 (T 15), .int .i64 (T 16), .int .i64 (T 17)], .agg #[.int .i64 (V 0), .int .i64 (V 1), .int .i64 (V 2), .int .i64 (V 3), .int .i64 (V 4), .int .i64 (V 5)]] w fun x w' => x = .returned (.tuple #[.agg #[.int .i64 (P 0), .int .i64 (P 1), .int .i64 (P 2), .int .i64 (P 3), .int .i64 (P 4), .int .i64 (P 5)], .int .i64 e2]) ∧ Below w.heap.size w w')
    (H3 : ∀ w : World, Calls Try.prog 10 #[.agg #[.int .i64 (T 0), .int .i64 (T 1), .int .i64 (T 2), .int .i64 (T 3), .int .i64 (T 4), .int .i64 (T 5), .int .i64 (T 6), .int .i64 (T 7), .int .i64 (T 8), .int .i64 (T 9), .int .i64 (T 10), .int .i64 (T 11), .int .i64 (T 12), .int .i64 (T 13), .int .i64 (T 14), .int .i64 (T 15), .int .i64 (T 16), .int .i64 (T 17)], .agg #[.int .i64 (W 0), .int .i64 (W 1), .int .i64 (W 2), .int .i64 (W 3), .int .i64 (W 4), .int .i64 (W 5)]] w fun x w' => x = .returned (.tuple #[.agg #[.int .i64 (Q 0), .int .i64 (Q 1), .int .i64 (Q 2), .int .i64 (Q 3), .int .i64 (Q 4), .int .i64 (Q 5)], .int .i64 e3]) ∧ Below w.heap.size w w')
    (H4 : ∀ w : World, Calls Try.prog 16 #[.agg #[.int .i64 (V 0), .int .i64 (V 1), .int .i64 (V 2), .int .i64 (V 3), .int .i64 (V 4), .int .i64 (V 5)], .agg #[.int .i64 (W 0), .int .i64 (W 1), .int .i64 (W 2), .int .i64 (W 3), .int .i64 (W 4), .int .i64 (W 5)]] w fun x w' => x = .returned (.tuple #[.agg #[.int .i64 x1, .int .i64 x2], .int .i64 e4]) ∧ Below w.heap.size w w')
    (H5 : ∀ w : World, Calls Try.prog 16 #[.agg #[.int .i64 (P 0), .int .i64 (P 1), .int .i64 (P 2), .int .i64 (P 3), .int .i64 (P 4), .int .i64 (P 5)], .agg #[.int .i64 (Q 0), .int .i64 (Q 1), .int .i64 (Q 2), .int .i64 (Q 3), .int .i64 (Q 4), .int .i64 (Q 5)]] w fun x w' => x = .returned (.tuple #[.agg #[.int .i64 y1, .int .i64 y2], .int .i64 e5]) ∧ Below w.heap.size w w')
    (H6 : ∀ w : World, Calls Try.prog 20 #[.agg #[.int .i64 (T 0), .int .i64 (T 1), .int .i64 (T 2), .int .i64 (T 3), .int .i64 (T 4), .int .i64 (T 5), .int .i64 (T 6), .int .i64 (T 7), .int .i64 (T 8), .int .i64 (T 9), .int .i64 (T 10), .int .i64 (T 11), .int .i64 (T 12), .int .i64 (T 13), .int .i64 (T 14), .int .i64 (T 15), .int .i64 (T 16), .int .i64 (T 17)]] w fun x w' => x = .returned (.tuple #[.agg #[.int .i64 (F 0), .int .i64 (F 1), .int .i64 (F 2), .int .i64 (F 3), .int .i64 (F 4), .int .i64 (F 5), .int .i64 (F 6), .int .i64 (F 7), .int .i64 (F 8), .int .i64 (F 9), .int .i64 (F 10), .int .i64 (F 11), .int .i64 (F 12), .int .i64 (F 13), .int .i64 (F 14), .int .i64 (F 15), .int .i64 (F 16), .int .i64 (F 17)], .int .i64 e6]) ∧ Below w.heap.size w w')
    (H7 : ∀ w : World, Calls Try.prog 10 #[.agg #[.int .i64 (F 0), .int .i64 (F 1), .int .i64 (F 2), .int .i64 (F 3), .int .i64 (F 4), .int .i64 (F 5), .int .i64 (F 6), .int .i64 (F 7), .int .i64 (F 8), .int .i64 (F 9), .int .i64 (F 10), .int .i64 (F 11), .int .i64 (F 12), .int .i64 (F 13), .int .i64 (F 14), .int .i64 (F 15), .int .i64 (F 16), .int .i64 (F 17)], .agg #[.int .i64 (P 0), .int .i64 (P 1), .int .i64 (P 2), .int .i64 (P 3), .int .i64 (P 4), .int .i64 (P 5)]] w fun x w' => x = .returned (.tuple #[.agg #[.int .i64 (U 0), .int .i64 (U 1), .int .i64 (U 2), .int .i64 (U 3), .int .i64 (U 4), .int .i64 (U 5)], .int .i64 e7]) ∧ Below w.heap.size w w')
    (w : World) :
    Calls Try.prog 5 #[.agg #[.int .i64 (V 0), .int .i64 (V 1), .int .i64 (V 2), .int .i64 (V 3), .int .i64 (V 4), .int .i64 (V 5)], .agg #[.int .i64 (W 0), .int .i64 (W 1), .int .i64 (W 2), .int .i64 (W 3), .int .i64 (W 4), .int .i64 (W 5)], .int .i64 axis, .agg #[.int .i64 n, .int .i64 d]] w fun x w' => x = .returned (.bool true) ∧ Below w.heap.size w w' := by
  have SM := Lib.hid H
  have AL := Lib.hid HA
  have HK := Lib.hid hK
  have HE := Lib.hid hE
  have K0 := Lib.hid H0
  have K1 := Lib.hid H1
  have K2 := Lib.hid H2
  have K3 := Lib.hid H3
  have K4 := Lib.hid H4
  have K5 := Lib.hid H5
  have K6 := Lib.hid H6
  have K7 := Lib.hid H7
  clear H HA hK hE H0 H1 H2 H3 H4 H5 H6 H7
  have dAl := dAl; have dSt := dSt
  go_enter Try.func5, Try.ntmps5
  go_upto_region 1 with fail
  refine opq (fun wx => Cs wx (w.heap.size) 6 V ∧ Cs wx (w.heap.size + 1) 6 W ∧ Cs wx (w.heap.size + 1 + 1) 2 (fq2 n d) ∧ w.heap.size + 1 + 1 < wx.heap.size ∧ Below w.heap.size w wx) ?_ ?_
  · exact ⟨cs_alloc _ (cs_alloc _ (cs_new rfl (arrV V)) (by simp)) (by simp <;> omega), cs_alloc _ (cs_new (by simp) (arrV W)) (by simp), cs_new (by simp) (arq2 n d), by simp, kb⟩
  rintro w0 ⟨cV, cW, cT, zs, HBa⟩
  have hV : ∀ o, o < 6 → w0.cell? ⟨w.heap.size, o, none⟩ = some (.int .i64 (V o)) := cV
  have hW : ∀ o, o < 6 → w0.cell? ⟨w.heap.size + 1, o, none⟩ = some (.int .i64 (W o)) := cW
  have hT : ∀ o, o < 2 → w0.cell? ⟨w.heap.size + 1 + 1, o, none⟩ = some (.int .i64 (fq2 n d o)) := cT
  have e0 : fq2 n d 0 = n := rfl
  have e1 : fq2 n d 1 = d := rfl
  have AC := SM.out
  go_wp2_with fail
  with_reducible refine (AC _).mono ?_
  rintro e v0 ⟨rfl, hb⟩
  clear AC hV hW hT
  replace cV := cs_below cV hb (by omega)
  replace cW := cs_below cW hb (by omega)
  replace cT := cs_below cT hb (by omega)
  replace HBa := HBa.trans (hb.mono (by omega))
  replace zs := Nat.lt_of_lt_of_le zs hb.size
  clear hb
  have hT : ∀ o, o < 2 → v0.cell? ⟨w.heap.size + 1 + 1, o, none⟩ = some (.int .i64 (fq2 n d o)) := cT
  go_upto_region 3 with fail
  clear hT e0 e1 f1 f2 f3 f4
  go_step
  refine wpList_plain rfl (fun K hK => ?_)
  go_big_op
  refine hK _ _ ?_
  clear hK K
  have hV : ∀ o, o < 2 → v0.cell? ⟨w.heap.size + 1 + 1, o, none⟩ = some (.int .i64 ((fq2 n d) o)) := cT
  have e0 : (fq2 n d) 0 = n := rfl
  have e1 : (fq2 n d) 1 = d := rfl
  refine wpList_plain rfl (fun K hK => ?_)
  go_big_op
  refine hK _ _ ?_
  clear hK K
  clear hV e0 e1
  have AC := K0.out
  refine wpList_plain rfl (fun K hK => ?_)
  go_big_op
  with_reducible refine (AC _).mono ?_
  rintro e v1 ⟨rfl, hb⟩
  simp only []
  refine hK _ _ ?_
  clear hK K
  replace cV := cs_below cV hb (by omega)
  replace cW := cs_below cW hb (by omega)
  replace cT := cs_below cT hb (by omega)
  replace HBa := HBa.trans (hb.mono (by omega))
  replace zs := Nat.lt_of_lt_of_le zs hb.size
  clear hb
  clear AC
  refine wpList_plain rfl (fun K hK => ?_)
  go_big_op
  refine hK _ _ ?_
  clear hK K
  refine wpList_plain rfl (fun K hK => ?_)
  go_big_op
  refine hK _ _ ?_
  clear hK K
  refine wpList_plain rfl (fun K hK => ?_)
  go_big_op
  refine hK _ _ ?_
  clear hK K
  refine wpList_plain rfl (fun K hK => ?_)
  go_big_op
  refine hK _ _ ?_
  clear hK K
  refine store18 (.tmp 9) (.tmp 53) v1.heap.size T (fun _ => 0) (cs_new rfl arr0) (fs_new rfl) rfl rfl rfl rfl ?_
  intro u3 cq2 fR sX bX
  have hb := bX v1.heap.size v1 (Nat.le_refl _) (bal (b0 _) _)
  have zq2 : v1.heap.size < u3.heap.size := by rw [sX]; simp
  have y4 := zs
  replace cV := cs_below cV hb (by omega)
  replace cW := cs_below cW hb (by omega)
  replace cT := cs_below cT hb (by omega)
  replace HBa := HBa.trans (hb.mono (by omega))
  replace zs := Nat.lt_of_lt_of_le zs hb.size
  replace zs := zq2
  clear zq2 hb bX sX fR
  generalize hq : v1.heap.size = q2 at *
  clear hq
  go_upto_region 4 with fail
  generalize (.tuple #[.agg #[.int .i64 (T 0), .int .i64 (T 1), .int .i64 (T 2), .int .i64 (T 3), .int .i64 (T 4), .int .i64 (T 5), .int .i64 (T 6), .int .i64 (T 7), .int .i64 (T 8), .int .i64 (T 9), .int .i64 (T 10), .int .i64 (T 11), .int .i64 (T 12), .int .i64 (T 13), .int .i64 (T 14), .int .i64 (T 15), .int .i64 (T 16), .int .i64 (T 17)], .int .i64 0] : Value) = x5
  generalize (.agg #[.int .i64 (T 0), .int .i64 (T 1), .int .i64 (T 2), .int .i64 (T 3), .int .i64 (T 4), .int .i64 (T 5), .int .i64 (T 6), .int .i64 (T 7), .int .i64 (T 8), .int .i64 (T 9), .int .i64 (T 10), .int .i64 (T 11), .int .i64 (T 12), .int .i64 (T 13), .int .i64 (T 14), .int .i64 (T 15), .int .i64 (T 16), .int .i64 (T 17)] : Value) = x6
  clear K0
  go_step
  refine load18 (.tmp 9) _ T cq2 rfl rfl rfl ?_
  simp only [putA]
  have AC := K1.out
  refine wpList_plain rfl (fun K hK => ?_)
  go_big_op
  with_reducible refine (AC _).mono ?_
  rintro e v7 ⟨rfl, hb⟩
  simp only []
  refine hK _ _ ?_
  clear hK K
  replace cV := cs_below cV hb (by omega)
  replace cW := cs_below cW hb (by omega)
  replace cT := cs_below cT hb (by omega)
  replace cq2 := cs_below cq2 hb (by omega)
  replace HBa := HBa.trans (hb.mono (by omega))
  replace zs := Nat.lt_of_lt_of_le zs hb.size
  clear hb
  clear AC
  go_upto_region 5 with fail
  clear K1
  go_step
  refine load18 (.tmp 9) _ T cq2 rfl rfl rfl ?_
  simp only [putA]
  have hV : ∀ o, o < 6 → v7.cell? ⟨w.heap.size, o, none⟩ = some (.int .i64 (V o)) := cV
  refine wpList_plain rfl (fun K hK => ?_)
  go_big_op
  refine hK _ _ ?_
  clear hK K
  clear hV
  have AC := K2.out
  refine wpList_plain rfl (fun K hK => ?_)
  go_big_op
  with_reducible refine (AC _).mono ?_
  rintro e v8 ⟨rfl, hb⟩
  simp only []
  refine hK _ _ ?_
  clear hK K
  replace cV := cs_below cV hb (by omega)
  replace cW := cs_below cW hb (by omega)
  replace cT := cs_below cT hb (by omega)
  replace cq2 := cs_below cq2 hb (by omega)
  replace HBa := HBa.trans (hb.mono (by omega))
  replace zs := Nat.lt_of_lt_of_le zs hb.size
  clear hb
  clear AC
  go_upto_region 6 with fail
  refine opq (fun wx => Cs wx (w.heap.size) 6 V ∧ Cs wx (w.heap.size + 1) 6 W ∧ Cs wx (w.heap.size + 1 + 1) 2 (fq2 n d) ∧ Cs wx (q2) 18 T ∧ Cs wx v8.heap.size 6 P ∧ v8.heap.size < wx.heap.size ∧ Below w.heap.size w wx) ?_ ?_
  · have zb := HBa.size
    exact ⟨kc, kc, kc, kc, by (intro o ho; rcases (show o = 0 ∨ o = 1 ∨ o = 2 ∨ o = 3 ∨ o = 4 ∨ o = 5 by omega) with rfl | rfl | rfl | rfl | rfl | rfl <;> simp [fq2, fq6, go_sem]), by simp [World.setCell], kg⟩
  have y11 := zs
  clear cV cW cT cq2 HBa zs
  generalize hq : v8.heap.size = q9 at *
  clear hq
  rintro u10 ⟨cV, cW, cT, cq2, cq9, zs, HBa⟩
  clear K2
  go_step
  refine load18 (.tmp 9) _ T cq2 rfl rfl rfl ?_
  simp only [putA]
  have hV : ∀ o, o < 6 → u10.cell? ⟨w.heap.size + 1, o, none⟩ = some (.int .i64 (W o)) := cW
  refine wpList_plain rfl (fun K hK => ?_)
  go_big_op
  refine hK _ _ ?_
  clear hK K
  clear hV
  have AC := K3.out
  refine wpList_plain rfl (fun K hK => ?_)
  go_big_op
  with_reducible refine (AC _).mono ?_
  rintro e v12 ⟨rfl, hb⟩
  simp only []
  refine hK _ _ ?_
  clear hK K
  replace cV := cs_below cV hb (by omega)
  replace cW := cs_below cW hb (by omega)
  replace cT := cs_below cT hb (by omega)
  replace cq2 := cs_below cq2 hb (by omega)
  replace cq9 := cs_below cq9 hb (by omega)
  replace HBa := HBa.trans (hb.mono (by omega))
  replace zs := Nat.lt_of_lt_of_le zs hb.size
  clear hb
  clear AC
  go_upto_region 7 with fail
  refine opq (fun wx => Cs wx (w.heap.size) 6 V ∧ Cs wx (w.heap.size + 1) 6 W ∧ Cs wx (w.heap.size + 1 + 1) 2 (fq2 n d) ∧ Cs wx (q2) 18 T ∧ Cs wx (q9) 6 P ∧ Cs wx v12.heap.size 6 Q ∧ v12.heap.size < wx.heap.size ∧ Below w.heap.size w wx) ?_ ?_
  · have zb := HBa.size
    exact ⟨kc, kc, kc, kc, kc, by (intro o ho; rcases (show o = 0 ∨ o = 1 ∨ o = 2 ∨ o = 3 ∨ o = 4 ∨ o = 5 by omega) with rfl | rfl | rfl | rfl | rfl | rfl <;> simp [fq2, fq6, go_sem]), by simp [World.setCell], kg⟩
  have y15 := zs
  clear cV cW cT cq2 cq9 HBa zs
  generalize hq : v12.heap.size = q13 at *
  clear hq
  rintro u14 ⟨cV, cW, cT, cq2, cq9, cq13, zs, HBa⟩
  clear K3
  go_step
  have hV : ∀ o, o < 6 → u14.cell? ⟨w.heap.size, o, none⟩ = some (.int .i64 (V o)) := cV
  refine wpList_plain rfl (fun K hK => ?_)
  go_big_op
  refine hK _ _ ?_
  clear hK K
  clear hV
  have hV : ∀ o, o < 6 → u14.cell? ⟨w.heap.size + 1, o, none⟩ = some (.int .i64 (W o)) := cW
  refine wpList_plain rfl (fun K hK => ?_)
  go_big_op
  refine hK _ _ ?_
  clear hK K
  clear hV
  have AC := K4.out
  refine wpList_plain rfl (fun K hK => ?_)
  go_big_op
  with_reducible refine (AC _).mono ?_
  rintro e v16 ⟨rfl, hb⟩
  simp only []
  refine hK _ _ ?_
  clear hK K
  replace cV := cs_below cV hb (by omega)
  replace cW := cs_below cW hb (by omega)
  replace cT := cs_below cT hb (by omega)
  replace cq2 := cs_below cq2 hb (by omega)
  replace cq9 := cs_below cq9 hb (by omega)
  replace cq13 := cs_below cq13 hb (by omega)
  replace HBa := HBa.trans (hb.mono (by omega))
  replace zs := Nat.lt_of_lt_of_le zs hb.size
  clear hb
  clear AC
  go_upto_region 8 with fail
  refine opq (fun wx => Cs wx (w.heap.size) 6 V ∧ Cs wx (w.heap.size + 1) 6 W ∧ Cs wx (w.heap.size + 1 + 1) 2 (fq2 n d) ∧ Cs wx (q2) 18 T ∧ Cs wx (q9) 6 P ∧ Cs wx (q13) 6 Q ∧ Cs wx v16.heap.size 2 (fq2 x1 x2) ∧ v16.heap.size < wx.heap.size ∧ Below w.heap.size w wx) ?_ ?_
  · have zb := HBa.size
    exact ⟨kc, kc, kc, kc, kc, kc, by (intro o ho; rcases (show o = 0 ∨ o = 1 by omega) with rfl | rfl <;> simp [fq2, fq6, go_sem]), by simp [World.setCell], kg⟩
  have y19 := zs
  clear cV cW cT cq2 cq9 cq13 HBa zs
  generalize hq : v16.heap.size = q17 at *
  clear hq
  rintro u18 ⟨cV, cW, cT, cq2, cq9, cq13, cq17, zs, HBa⟩
  clear K4
  go_step
  have hV : ∀ o, o < 6 → u18.cell? ⟨q9, o, none⟩ = some (.int .i64 (P o)) := cq9
  refine wpList_plain rfl (fun K hK => ?_)
  go_big_op
  refine hK _ _ ?_
  clear hK K
  clear hV
  have hV : ∀ o, o < 6 → u18.cell? ⟨q13, o, none⟩ = some (.int .i64 (Q o)) := cq13
  refine wpList_plain rfl (fun K hK => ?_)
  go_big_op
  refine hK _ _ ?_
  clear hK K
  clear hV
  have AC := K5.out
  refine wpList_plain rfl (fun K hK => ?_)
  go_big_op
  with_reducible refine (AC _).mono ?_
  rintro e v20 ⟨rfl, hb⟩
  simp only []
  refine hK _ _ ?_
  clear hK K
  replace cV := cs_below cV hb (by omega)
  replace cW := cs_below cW hb (by omega)
  replace cT := cs_below cT hb (by omega)
  replace cq2 := cs_below cq2 hb (by omega)
  replace cq9 := cs_below cq9 hb (by omega)
  replace cq13 := cs_below cq13 hb (by omega)
  replace cq17 := cs_below cq17 hb (by omega)
  replace HBa := HBa.trans (hb.mono (by omega))
  replace zs := Nat.lt_of_lt_of_le zs hb.size
  clear hb
  clear AC
  go_upto_region 9 with fail
  refine opq (fun wx => Cs wx (w.heap.size) 6 V ∧ Cs wx (w.heap.size + 1) 6 W ∧ Cs wx (w.heap.size + 1 + 1) 2 (fq2 n d) ∧ Cs wx (q2) 18 T ∧ Cs wx (q9) 6 P ∧ Cs wx (q13) 6 Q ∧ Cs wx (q17) 2 (fq2 x1 x2) ∧ Cs wx v20.heap.size 2 (fq2 y1 y2) ∧ v20.heap.size < wx.heap.size ∧ Below w.heap.size w wx) ?_ ?_
  · have zb := HBa.size
    exact ⟨kc, kc, kc, kc, kc, kc, kc, by (intro o ho; rcases (show o = 0 ∨ o = 1 by omega) with rfl | rfl <;> simp [fq2, fq6, go_sem]), by simp [World.setCell], kg⟩
  have y23 := zs
  clear cV cW cT cq2 cq9 cq13 cq17 HBa zs
  generalize hq : v20.heap.size = q21 at *
  clear hq
  rintro u22 ⟨cV, cW, cT, cq2, cq9, cq13, cq17, cq21, zs, HBa⟩
  clear K5
  go_step
  refine load18 (.tmp 9) _ T cq2 rfl rfl rfl ?_
  simp only [putA]
  have AC := K6.out
  refine wpList_plain rfl (fun K hK => ?_)
  go_big_op
  with_reducible refine (AC _).mono ?_
  rintro e v24 ⟨rfl, hb⟩
  simp only []
  refine hK _ _ ?_
  clear hK K
  replace cV := cs_below cV hb (by omega)
  replace cW := cs_below cW hb (by omega)
  replace cT := cs_below cT hb (by omega)
  replace cq2 := cs_below cq2 hb (by omega)
  replace cq9 := cs_below cq9 hb (by omega)
  replace cq13 := cs_below cq13 hb (by omega)
  replace cq17 := cs_below cq17 hb (by omega)
  replace cq21 := cs_below cq21 hb (by omega)
  replace HBa := HBa.trans (hb.mono (by omega))
  replace zs := Nat.lt_of_lt_of_le zs hb.size
  clear hb
  clear AC
  refine wpList_plain rfl (fun K hK => ?_)
  go_big_op
  refine hK _ _ ?_
  clear hK K
  refine wpList_plain rfl (fun K hK => ?_)
  go_big_op
  refine hK _ _ ?_
  clear hK K
  refine wpList_plain rfl (fun K hK => ?_)
  go_big_op
  refine hK _ _ ?_
  clear hK K
  refine wpList_plain rfl (fun K hK => ?_)
  go_big_op
  refine hK _ _ ?_
  clear hK K
  refine store18 (.tmp 21) (.tmp 87) v24.heap.size F (fun _ => 0) (cs_new rfl arr0) (fs_new rfl) rfl rfl rfl rfl ?_
  intro u26 cq25 fR sX bX
  have hb := bX v24.heap.size v24 (Nat.le_refl _) (bal (b0 _) _)
  have zq25 : v24.heap.size < u26.heap.size := by rw [sX]; simp
  have y27 := zs
  replace cV := cs_below cV hb (by omega)
  replace cW := cs_below cW hb (by omega)
  replace cT := cs_below cT hb (by omega)
  replace cq2 := cs_below cq2 hb (by omega)
  replace cq9 := cs_below cq9 hb (by omega)
  replace cq13 := cs_below cq13 hb (by omega)
  replace cq17 := cs_below cq17 hb (by omega)
  replace cq21 := cs_below cq21 hb (by omega)
  replace HBa := HBa.trans (hb.mono (by omega))
  replace zs := Nat.lt_of_lt_of_le zs hb.size
  replace zs := zq25
  clear zq25 hb bX sX fR
  generalize hq : v24.heap.size = q25 at *
  clear hq
  go_upto_region 10 with fail
  generalize (.tuple #[.agg #[.int .i64 (F 0), .int .i64 (F 1), .int .i64 (F 2), .int .i64 (F 3), .int .i64 (F 4), .int .i64 (F 5), .int .i64 (F 6), .int .i64 (F 7), .int .i64 (F 8), .int .i64 (F 9), .int .i64 (F 10), .int .i64 (F 11), .int .i64 (F 12), .int .i64 (F 13), .int .i64 (F 14), .int .i64 (F 15), .int .i64 (F 16), .int .i64 (F 17)], .int .i64 e6] : Value) = x28
  generalize (.agg #[.int .i64 (F 0), .int .i64 (F 1), .int .i64 (F 2), .int .i64 (F 3), .int .i64 (F 4), .int .i64 (F 5), .int .i64 (F 6), .int .i64 (F 7), .int .i64 (F 8), .int .i64 (F 9), .int .i64 (F 10), .int .i64 (F 11), .int .i64 (F 12), .int .i64 (F 13), .int .i64 (F 14), .int .i64 (F 15), .int .i64 (F 16), .int .i64 (F 17)] : Value) = x29
  clear K6
  go_step
  refine load18 (.tmp 21) _ F cq25 rfl rfl rfl ?_
  simp only [putA]
  have hV : ∀ o, o < 6 → u26.cell? ⟨q9, o, none⟩ = some (.int .i64 (P o)) := cq9
  refine wpList_plain rfl (fun K hK => ?_)
  go_big_op
  refine hK _ _ ?_
  clear hK K
  clear hV
  have AC := K7.out
  refine wpList_plain rfl (fun K hK => ?_)
  go_big_op
  with_reducible refine (AC _).mono ?_
  rintro e v30 ⟨rfl, hb⟩
  simp only []
  refine hK _ _ ?_
  clear hK K
  replace cV := cs_below cV hb (by omega)
  replace cW := cs_below cW hb (by omega)
  replace cT := cs_below cT hb (by omega)
  replace cq2 := cs_below cq2 hb (by omega)
  replace cq9 := cs_below cq9 hb (by omega)
  replace cq13 := cs_below cq13 hb (by omega)
  replace cq17 := cs_below cq17 hb (by omega)
  replace cq21 := cs_below cq21 hb (by omega)
  replace cq25 := cs_below cq25 hb (by omega)
  replace HBa := HBa.trans (hb.mono (by omega))
  replace zs := Nat.lt_of_lt_of_le zs hb.size
  clear hb
  clear AC
  go_upto_region 11 with fail
  refine opq (fun wx => Cs wx (w.heap.size) 6 V ∧ Cs wx (w.heap.size + 1) 6 W ∧ Cs wx (w.heap.size + 1 + 1) 2 (fq2 n d) ∧ Cs wx (q2) 18 T ∧ Cs wx (q9) 6 P ∧ Cs wx (q13) 6 Q ∧ Cs wx (q17) 2 (fq2 x1 x2) ∧ Cs wx (q21) 2 (fq2 y1 y2) ∧ Cs wx (q25) 18 F ∧ Cs wx v30.heap.size 6 U ∧ v30.heap.size < wx.heap.size ∧ Below w.heap.size w wx) ?_ ?_
  · have zb := HBa.size
    exact ⟨kc, kc, kc, kc, kc, kc, kc, kc, kc, by (intro o ho; rcases (show o = 0 ∨ o = 1 ∨ o = 2 ∨ o = 3 ∨ o = 4 ∨ o = 5 by omega) with rfl | rfl | rfl | rfl | rfl | rfl <;> simp [fq2, fq6, go_sem]), by simp [World.setCell], kg⟩
  have y33 := zs
  clear cV cW cT cq2 cq9 cq13 cq17 cq21 cq25 HBa zs
  generalize hq : v30.heap.size = q31 at *
  clear hq
  rintro u32 ⟨cV, cW, cT, cq2, cq9, cq13, cq17, cq21, cq25, cq31, zs, HBa⟩
  clear K7
  by_cases k1 : e1 = 0
  · subst k1
    by_cases k2 : e2 = 0
    · subst k2
      by_cases k3 : e3 = 0
      · subst k3
        by_cases k4 : e4 = 0
        · subst k4
          by_cases k5 : e5 = 0
          · subst k5
            by_cases k6 : e6 = 0
            · subst k6
              by_cases k7 : e7 = 0
              · subst k7
                obtain ⟨k8, k9, k10, hU⟩ := HK.out rfl rfl rfl rfl rfl rfl rfl
                subst k8 k9 k10
                clear HK HE
                have h17 : ∀ o, o < 2 → u32.cell? ⟨q17, o, none⟩ = some (.int .i64 ((fq2 x1 x2) o)) := cq17
                have h19 : ∀ o, o < 2 → u32.cell? ⟨q21, o, none⟩ = some (.int .i64 ((fq2 x1 x2) o)) := cq21
                have h23 : ∀ o, o < 6 → u32.cell? ⟨q31, o, none⟩ = some (.int .i64 (U o)) := cq31
                have h4 : ∀ o, o < 6 → u32.cell? ⟨w.heap.size, o, none⟩ = some (.int .i64 (V o)) := cV
                have e0 : fq2 x1 x2 0 = x1 := rfl
                have e1 : fq2 x1 x2 1 = x2 := rfl
                have u0 := hU 0 (by omega)
                have u1 := hU 1 (by omega)
                have u2 := hU 2 (by omega)
                have u3 := hU 3 (by omega)
                have u4 := hU 4 (by omega)
                have u5 := hU 5 (by omega)
                clear hU
                have AC := AL.out
                go_wp2_with fail
                with_reducible refine (AC _).mono ?_
                rintro e z1 ⟨rfl, hb⟩
                clear AC
                go_wp2_with fail
                go_ret
                exact ⟨rfl, HBa.trans (hb.mono (by omega))⟩
              · have g7 : (e7 == 0) = false := by simpa using k7
                clear HK
                clear HE
                have AC := AL.out
                go_wp2_with fail
                with_reducible refine (AC _).mono ?_
                rintro e z1 ⟨rfl, hb⟩
                clear AC
                go_wp2_with fail
                go_ret
                exact ⟨rfl, HBa.trans (hb.mono (by omega))⟩
            · have g6 : (e6 == 0) = false := by simpa using k6
              clear HK
              clear HE
              have AC := AL.out
              go_wp2_with fail
              with_reducible refine (AC _).mono ?_
              rintro e z1 ⟨rfl, hb⟩
              clear AC
              go_wp2_with fail
              go_ret
              exact ⟨rfl, HBa.trans (hb.mono (by omega))⟩
          · have g5 : (e5 == 0) = false := by simpa using k5
            clear HK
            clear HE
            have AC := AL.out
            go_wp2_with fail
            with_reducible refine (AC _).mono ?_
            rintro e z1 ⟨rfl, hb⟩
            clear AC
            go_wp2_with fail
            go_ret
            exact ⟨rfl, HBa.trans (hb.mono (by omega))⟩
        · have g4 : (e4 == 0) = false := by simpa using k4
          clear HK
          clear HE
          have AC := AL.out
          go_wp2_with fail
          with_reducible refine (AC _).mono ?_
          rintro e z1 ⟨rfl, hb⟩
          clear AC
          go_wp2_with fail
          go_ret
          exact ⟨rfl, HBa.trans (hb.mono (by omega))⟩
      · have g3 : (e3 == 0) = false := by simpa using k3
        clear HK
        clear HE
        have AC := AL.out
        go_wp2_with fail
        with_reducible refine (AC _).mono ?_
        rintro e z1 ⟨rfl, hb⟩
        clear AC
        go_wp2_with fail
        go_ret
        exact ⟨rfl, HBa.trans (hb.mono (by omega))⟩
    · have g2 : (e2 == 0) = false := by simpa using k2
      clear HK
      clear HE
      have AC := AL.out
      go_wp2_with fail
      with_reducible refine (AC _).mono ?_
      rintro e z1 ⟨rfl, hb⟩
      clear AC
      go_wp2_with fail
      go_ret
      exact ⟨rfl, HBa.trans (hb.mono (by omega))⟩
  · have g1 : (e1 == 0) = false := by simpa using k1
    clear HK
    obtain rfl := HE.out.resolve_left k1
    clear HE g1 k1
    have AC := AL.out
    go_wp2_with fail
    with_reducible refine (AC _).mono ?_
    rintro e z1 ⟨rfl, hb⟩
    clear AC
    go_wp2_with fail
    go_ret
    exact ⟨rfl, HBa.trans (hb.mono (by omega))⟩
end Go.Proofs.Ytlijkebdaalldaa
