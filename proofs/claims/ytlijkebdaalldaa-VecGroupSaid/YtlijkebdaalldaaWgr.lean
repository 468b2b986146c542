/-
  VecGroup, walked: its calls by contracts.
-/
import Derived.Lib.Hide
import Derived.Test.YtlijkebdaalldaaKu
import Derived.Test.YtlijkebdaalldaaMA
import Derived.Test.YtlijkebdaalldaaMG
import Derived.Test.YtlijkebdaalldaaWlo
import Derived.Deep.DeepCutAuto
namespace Go.Proofs.Ytlijkebdaalldaa
open Go.RowKit
set_option linter.unusedVariables false
set_option linter.unusedSimpArgs false

set_option maxRecDepth 100000 in
set_option maxHeartbeats 16000000 in
theorem group_out_a (V : Nat → Int) (axis other n d p q : Int) (H : ∀ w : World, Calls Try.prog 29 #[.agg #[.int .i64 (V 0), .int .i64 (V 1), .int .i64 (V 2), .int .i64 (V 3), .int .i64 (V 4), .int .i64 (V 5)], .agg #[.int .i64 (V 0), .int .i64 (V 1), .int .i64 (V 2), .int .i64 (V 3), .int .i64 (V 4), .int .i64 (V 5)], .agg #[.int .i64 n, .int .i64 d]] w fun x w' => x = .returned (.bool false) ∧ Below w.heap.size w w') (HA : ∀ w : World, Calls Try.prog 22 #[] w fun x w' => x = .returned (.bool true) ∧ Below w.heap.size w w') (w : World) :
    Calls Try.prog 7 #[.agg #[.int .i64 (V 0), .int .i64 (V 1), .int .i64 (V 2), .int .i64 (V 3), .int .i64 (V 4), .int .i64 (V 5)], .int .i64 axis, .int .i64 other, .agg #[.int .i64 n, .int .i64 d], .agg #[.int .i64 p, .int .i64 q]] w fun x w' => x = .returned (.bool true) ∧ Below w.heap.size w w' := by
  have SA := Lib.hid H
  have AL := Lib.hid HA
  clear H HA
  have dAl := dAl; have dSt := dSt
  go_enter Try.func7, Try.ntmps7
  go_upto_region 1 with fail
  refine opq (fun wx => Cs wx (w.heap.size) 6 V ∧ Cs wx (w.heap.size + 1) 2 (fq2 n d) ∧ Cs wx (w.heap.size + 1 + 1) 2 (fq2 p q) ∧ w.heap.size + 1 + 1 < wx.heap.size ∧ Below w.heap.size w wx) ?_ ?_
  · exact ⟨cs_alloc _ (cs_alloc _ (cs_new rfl (arrV V)) (by simp)) (by simp <;> omega), cs_alloc _ (cs_new (by simp) (arq2 n d)) (by simp), cs_new (by simp) (arq2 p q), by simp, kb⟩
  rintro w0 ⟨cV, cS, cT, zs, HBa⟩
  have hV : ∀ o, o < 6 → w0.cell? ⟨w.heap.size, o, none⟩ = some (.int .i64 (V o)) := cV
  have hS : ∀ o, o < 2 → w0.cell? ⟨w.heap.size + 1, o, none⟩ = some (.int .i64 (fq2 n d o)) := cS
  have hT : ∀ o, o < 2 → w0.cell? ⟨w.heap.size + 1 + 1, o, none⟩ = some (.int .i64 (fq2 p q o)) := cT
  have i0 : fq2 n d 0 = n := rfl
  have i1 : fq2 n d 1 = d := rfl
  have j0 : fq2 p q 0 = p := rfl
  have j1 : fq2 p q 1 = q := rfl
  go_wp2_with fail
  with_reducible refine (SA.out _).mono ?_
  rintro e v0 ⟨rfl, hb⟩
  clear hV hS hT
  replace cV := cs_below cV hb (by omega)
  replace cS := cs_below cS hb (by omega)
  replace cT := cs_below cT hb (by omega)
  replace HBa := HBa.trans (hb.mono (by omega))
  replace zs := Nat.lt_of_lt_of_le zs hb.size
  clear hb
  have hV : ∀ o, o < 6 → v0.cell? ⟨w.heap.size, o, none⟩ = some (.int .i64 (V o)) := cV
  have hS : ∀ o, o < 2 → v0.cell? ⟨w.heap.size + 1, o, none⟩ = some (.int .i64 (fq2 n d o)) := cS
  have hT : ∀ o, o < 2 → v0.cell? ⟨w.heap.size + 1 + 1, o, none⟩ = some (.int .i64 (fq2 p q o)) := cT
  go_wp2_with fail
  with_reducible refine (AL.out _).mono ?_
  rintro e z1 ⟨rfl, hb⟩
  go_wp2_with fail
  go_ret
  exact ⟨rfl, HBa.trans (hb.mono (by omega))⟩
set_option maxRecDepth 100000 in
set_option maxHeartbeats 16000000 in
theorem group_out_b (V : Nat → Int) (axis other n d p q : Int) (H : ∀ w : World, Calls Try.prog 29 #[.agg #[.int .i64 (V 0), .int .i64 (V 1), .int .i64 (V 2), .int .i64 (V 3), .int .i64 (V 4), .int .i64 (V 5)], .agg #[.int .i64 (V 0), .int .i64 (V 1), .int .i64 (V 2), .int .i64 (V 3), .int .i64 (V 4), .int .i64 (V 5)], .agg #[.int .i64 n, .int .i64 d]] w fun x w' => x = .returned (.bool true) ∧ Below w.heap.size w w') (H2 : ∀ w : World, Calls Try.prog 29 #[.agg #[.int .i64 (V 0), .int .i64 (V 1), .int .i64 (V 2), .int .i64 (V 3), .int .i64 (V 4), .int .i64 (V 5)], .agg #[.int .i64 (V 0), .int .i64 (V 1), .int .i64 (V 2), .int .i64 (V 3), .int .i64 (V 4), .int .i64 (V 5)], .agg #[.int .i64 p, .int .i64 q]] w fun x w' => x = .returned (.bool false) ∧ Below w.heap.size w w') (HA : ∀ w : World, Calls Try.prog 22 #[] w fun x w' => x = .returned (.bool true) ∧ Below w.heap.size w w') (w : World) :
    Calls Try.prog 7 #[.agg #[.int .i64 (V 0), .int .i64 (V 1), .int .i64 (V 2), .int .i64 (V 3), .int .i64 (V 4), .int .i64 (V 5)], .int .i64 axis, .int .i64 other, .agg #[.int .i64 n, .int .i64 d], .agg #[.int .i64 p, .int .i64 q]] w fun x w' => x = .returned (.bool true) ∧ Below w.heap.size w w' := by
  have SA := Lib.hid H
  have SB := Lib.hid H2
  have AL := Lib.hid HA
  clear H H2 HA
  have dAl := dAl; have dSt := dSt
  go_enter Try.func7, Try.ntmps7
  go_upto_region 1 with fail
  refine opq (fun wx => Cs wx (w.heap.size) 6 V ∧ Cs wx (w.heap.size + 1) 2 (fq2 n d) ∧ Cs wx (w.heap.size + 1 + 1) 2 (fq2 p q) ∧ w.heap.size + 1 + 1 < wx.heap.size ∧ Below w.heap.size w wx) ?_ ?_
  · exact ⟨cs_alloc _ (cs_alloc _ (cs_new rfl (arrV V)) (by simp)) (by simp <;> omega), cs_alloc _ (cs_new (by simp) (arq2 n d)) (by simp), cs_new (by simp) (arq2 p q), by simp, kb⟩
  rintro w0 ⟨cV, cS, cT, zs, HBa⟩
  have hV : ∀ o, o < 6 → w0.cell? ⟨w.heap.size, o, none⟩ = some (.int .i64 (V o)) := cV
  have hS : ∀ o, o < 2 → w0.cell? ⟨w.heap.size + 1, o, none⟩ = some (.int .i64 (fq2 n d o)) := cS
  have hT : ∀ o, o < 2 → w0.cell? ⟨w.heap.size + 1 + 1, o, none⟩ = some (.int .i64 (fq2 p q o)) := cT
  have i0 : fq2 n d 0 = n := rfl
  have i1 : fq2 n d 1 = d := rfl
  have j0 : fq2 p q 0 = p := rfl
  have j1 : fq2 p q 1 = q := rfl
  go_wp2_with fail
  with_reducible refine (SA.out _).mono ?_
  rintro e v0 ⟨rfl, hb⟩
  clear hV hS hT
  replace cV := cs_below cV hb (by omega)
  replace cS := cs_below cS hb (by omega)
  replace cT := cs_below cT hb (by omega)
  replace HBa := HBa.trans (hb.mono (by omega))
  replace zs := Nat.lt_of_lt_of_le zs hb.size
  clear hb
  have hV : ∀ o, o < 6 → v0.cell? ⟨w.heap.size, o, none⟩ = some (.int .i64 (V o)) := cV
  have hS : ∀ o, o < 2 → v0.cell? ⟨w.heap.size + 1, o, none⟩ = some (.int .i64 (fq2 n d o)) := cS
  have hT : ∀ o, o < 2 → v0.cell? ⟨w.heap.size + 1 + 1, o, none⟩ = some (.int .i64 (fq2 p q o)) := cT
  go_wp2_with fail
  with_reducible refine (SB.out _).mono ?_
  rintro e v1 ⟨rfl, hb⟩
  clear hV hS hT
  replace cV := cs_below cV hb (by omega)
  replace cS := cs_below cS hb (by omega)
  replace cT := cs_below cT hb (by omega)
  replace HBa := HBa.trans (hb.mono (by omega))
  replace zs := Nat.lt_of_lt_of_le zs hb.size
  clear hb
  have hV : ∀ o, o < 6 → v1.cell? ⟨w.heap.size, o, none⟩ = some (.int .i64 (V o)) := cV
  have hS : ∀ o, o < 2 → v1.cell? ⟨w.heap.size + 1, o, none⟩ = some (.int .i64 (fq2 n d o)) := cS
  have hT : ∀ o, o < 2 → v1.cell? ⟨w.heap.size + 1 + 1, o, none⟩ = some (.int .i64 (fq2 p q o)) := cT
  go_wp2_with fail
  with_reducible refine (AL.out _).mono ?_
  rintro e z1 ⟨rfl, hb⟩
  go_wp2_with fail
  go_ret
  exact ⟨rfl, HBa.trans (hb.mono (by omega))⟩
set_option maxRecDepth 100000 in
set_option maxHeartbeats 16000000 in
theorem group_out_c (V : Nat → Int) (axis other n d p q : Int) (hB : axis < 0 ∨ 2 < axis ∨ other < 0 ∨ 2 < other ∨ 20 < n ∨ n < -20 ∨ 20 < p ∨ p < -20) (H : ∀ w : World, Calls Try.prog 29 #[.agg #[.int .i64 (V 0), .int .i64 (V 1), .int .i64 (V 2), .int .i64 (V 3), .int .i64 (V 4), .int .i64 (V 5)], .agg #[.int .i64 (V 0), .int .i64 (V 1), .int .i64 (V 2), .int .i64 (V 3), .int .i64 (V 4), .int .i64 (V 5)], .agg #[.int .i64 n, .int .i64 d]] w fun x w' => x = .returned (.bool true) ∧ Below w.heap.size w w') (H2 : ∀ w : World, Calls Try.prog 29 #[.agg #[.int .i64 (V 0), .int .i64 (V 1), .int .i64 (V 2), .int .i64 (V 3), .int .i64 (V 4), .int .i64 (V 5)], .agg #[.int .i64 (V 0), .int .i64 (V 1), .int .i64 (V 2), .int .i64 (V 3), .int .i64 (V 4), .int .i64 (V 5)], .agg #[.int .i64 p, .int .i64 q]] w fun x w' => x = .returned (.bool true) ∧ Below w.heap.size w w') (HA : ∀ w : World, Calls Try.prog 22 #[] w fun x w' => x = .returned (.bool true) ∧ Below w.heap.size w w') (w : World) :
    Calls Try.prog 7 #[.agg #[.int .i64 (V 0), .int .i64 (V 1), .int .i64 (V 2), .int .i64 (V 3), .int .i64 (V 4), .int .i64 (V 5)], .int .i64 axis, .int .i64 other, .agg #[.int .i64 n, .int .i64 d], .agg #[.int .i64 p, .int .i64 q]] w fun x w' => x = .returned (.bool true) ∧ Below w.heap.size w w' := by
  have SA := Lib.hid H
  have SB := Lib.hid H2
  have AL := Lib.hid HA
  have HB := Lib.hid hB
  clear H H2 HA hB
  have dAl := dAl; have dSt := dSt
  go_enter Try.func7, Try.ntmps7
  go_upto_region 1 with fail
  refine opq (fun wx => Cs wx (w.heap.size) 6 V ∧ Cs wx (w.heap.size + 1) 2 (fq2 n d) ∧ Cs wx (w.heap.size + 1 + 1) 2 (fq2 p q) ∧ w.heap.size + 1 + 1 < wx.heap.size ∧ Below w.heap.size w wx) ?_ ?_
  · exact ⟨cs_alloc _ (cs_alloc _ (cs_new rfl (arrV V)) (by simp)) (by simp <;> omega), cs_alloc _ (cs_new (by simp) (arq2 n d)) (by simp), cs_new (by simp) (arq2 p q), by simp, kb⟩
  rintro w0 ⟨cV, cS, cT, zs, HBa⟩
  have hV : ∀ o, o < 6 → w0.cell? ⟨w.heap.size, o, none⟩ = some (.int .i64 (V o)) := cV
  have hS : ∀ o, o < 2 → w0.cell? ⟨w.heap.size + 1, o, none⟩ = some (.int .i64 (fq2 n d o)) := cS
  have hT : ∀ o, o < 2 → w0.cell? ⟨w.heap.size + 1 + 1, o, none⟩ = some (.int .i64 (fq2 p q o)) := cT
  have i0 : fq2 n d 0 = n := rfl
  have i1 : fq2 n d 1 = d := rfl
  have j0 : fq2 p q 0 = p := rfl
  have j1 : fq2 p q 1 = q := rfl
  go_wp2_with fail
  with_reducible refine (SA.out _).mono ?_
  rintro e v0 ⟨rfl, hb⟩
  clear hV hS hT
  replace cV := cs_below cV hb (by omega)
  replace cS := cs_below cS hb (by omega)
  replace cT := cs_below cT hb (by omega)
  replace HBa := HBa.trans (hb.mono (by omega))
  replace zs := Nat.lt_of_lt_of_le zs hb.size
  clear hb
  have hV : ∀ o, o < 6 → v0.cell? ⟨w.heap.size, o, none⟩ = some (.int .i64 (V o)) := cV
  have hS : ∀ o, o < 2 → v0.cell? ⟨w.heap.size + 1, o, none⟩ = some (.int .i64 (fq2 n d o)) := cS
  have hT : ∀ o, o < 2 → v0.cell? ⟨w.heap.size + 1 + 1, o, none⟩ = some (.int .i64 (fq2 p q o)) := cT
  go_wp2_with fail
  with_reducible refine (SB.out _).mono ?_
  rintro e v1 ⟨rfl, hb⟩
  clear hV hS hT
  replace cV := cs_below cV hb (by omega)
  replace cS := cs_below cS hb (by omega)
  replace cT := cs_below cT hb (by omega)
  replace HBa := HBa.trans (hb.mono (by omega))
  replace zs := Nat.lt_of_lt_of_le zs hb.size
  clear hb
  have hV : ∀ o, o < 6 → v1.cell? ⟨w.heap.size, o, none⟩ = some (.int .i64 (V o)) := cV
  have hS : ∀ o, o < 2 → v1.cell? ⟨w.heap.size + 1, o, none⟩ = some (.int .i64 (fq2 n d o)) := cS
  have hT : ∀ o, o < 2 → v1.cell? ⟨w.heap.size + 1 + 1, o, none⟩ = some (.int .i64 (fq2 p q o)) := cT
  clear SA SB
  by_cases k0 : axis < 0
  · have f0 : (axis < 0) = True := eq_true k0
    clear HB k0
    go_wp2_with fail
    with_reducible refine (AL.out _).mono ?_
    rintro e z1 ⟨rfl, hb⟩
    go_wp2_with fail
    go_ret
    exact ⟨rfl, HBa.trans (hb.mono (by omega))⟩
  have f0 : (axis < 0) = False := eq_false k0
  by_cases k1 : 2 < axis
  · have f1 : (2 < axis) = True := eq_true k1
    clear HB k1
    go_wp2_with fail
    with_reducible refine (AL.out _).mono ?_
    rintro e z1 ⟨rfl, hb⟩
    go_wp2_with fail
    go_ret
    exact ⟨rfl, HBa.trans (hb.mono (by omega))⟩
  have f1 : (2 < axis) = False := eq_false k1
  by_cases k2 : other < 0
  · have f2 : (other < 0) = True := eq_true k2
    clear HB k2
    go_wp2_with fail
    with_reducible refine (AL.out _).mono ?_
    rintro e z1 ⟨rfl, hb⟩
    go_wp2_with fail
    go_ret
    exact ⟨rfl, HBa.trans (hb.mono (by omega))⟩
  have f2 : (other < 0) = False := eq_false k2
  by_cases k3 : 2 < other
  · have f3 : (2 < other) = True := eq_true k3
    clear HB k3
    go_wp2_with fail
    with_reducible refine (AL.out _).mono ?_
    rintro e z1 ⟨rfl, hb⟩
    go_wp2_with fail
    go_ret
    exact ⟨rfl, HBa.trans (hb.mono (by omega))⟩
  have f3 : (2 < other) = False := eq_false k3
  by_cases k4 : 20 < n
  · have f4 : (20 < n) = True := eq_true k4
    clear HB k4
    go_wp2_with fail
    with_reducible refine (AL.out _).mono ?_
    rintro e z1 ⟨rfl, hb⟩
    go_wp2_with fail
    go_ret
    exact ⟨rfl, HBa.trans (hb.mono (by omega))⟩
  have f4 : (20 < n) = False := eq_false k4
  by_cases k5 : n < -20
  · have f5 : (n < -20) = True := eq_true k5
    clear HB k5
    go_wp2_with fail
    with_reducible refine (AL.out _).mono ?_
    rintro e z1 ⟨rfl, hb⟩
    go_wp2_with fail
    go_ret
    exact ⟨rfl, HBa.trans (hb.mono (by omega))⟩
  have f5 : (n < -20) = False := eq_false k5
  by_cases k6 : 20 < p
  · have f6 : (20 < p) = True := eq_true k6
    clear HB k6
    go_wp2_with fail
    with_reducible refine (AL.out _).mono ?_
    rintro e z1 ⟨rfl, hb⟩
    go_wp2_with fail
    go_ret
    exact ⟨rfl, HBa.trans (hb.mono (by omega))⟩
  have f6 : (20 < p) = False := eq_false k6
  by_cases k7 : p < -20
  · have f7 : (p < -20) = True := eq_true k7
    clear HB k7
    go_wp2_with fail
    with_reducible refine (AL.out _).mono ?_
    rintro e z1 ⟨rfl, hb⟩
    go_wp2_with fail
    go_ret
    exact ⟨rfl, HBa.trans (hb.mono (by omega))⟩
  have f7 : (p < -20) = False := eq_false k7
  exact absurd HB.out (by omega)
set_option maxRecDepth 100000 in
set_option maxHeartbeats 16000000 in
theorem group_walk (V X Y Z M N P G : Nat → Int) (axis other n d p q m1 m2 l1 l2 a1 a2 r1 r2 e1 e2 e3 e4 e5 : Int) (b : Bool)
    (f0 : (axis < 0) = False) (f1 : (2 < axis) = False) (f2 : (other < 0) = False) (f3 : (2 < other) = False) (f4 : (20 < n) = False) (f5 : (n < -20) = False) (f6 : (20 < p) = False) (f7 : (p < -20) = False)
    (hY : e1 = 0 → e2 = 0 → e3 = 0 → ∀ o, o < 6 → Y o = Z o) (hI : e4 = 0 → b = true) (hZ : e5 ≠ 0 → l1 = 0) (hG : axis = other → e5 = 0 → (∀ w : World, Calls Try.prog 9 #[.int .i64 axis, .agg #[.int .i64 r1, .int .i64 r2]] w fun x w' => x = .returned (.tuple #[.agg #[.int .i64 (G 0), .int .i64 (G 1), .int .i64 (G 2), .int .i64 (G 3), .int .i64 (G 4), .int .i64 (G 5), .int .i64 (G 6), .int .i64 (G 7), .int .i64 (G 8), .int .i64 (G 9), .int .i64 (G 10), .int .i64 (G 11), .int .i64 (G 12), .int .i64 (G 13), .int .i64 (G 14), .int .i64 (G 15), .int .i64 (G 16), .int .i64 (G 17)], .int .i64 0]) ∧ Below w.heap.size w w') ∧ matB G P = true)
    (HS : ∀ w : World, Calls Try.prog 29 #[.agg #[.int .i64 (V 0), .int .i64 (V 1), .int .i64 (V 2), .int .i64 (V 3), .int .i64 (V 4), .int .i64 (V 5)], .agg #[.int .i64 (V 0), .int .i64 (V 1), .int .i64 (V 2), .int .i64 (V 3), .int .i64 (V 4), .int .i64 (V 5)], .agg #[.int .i64 n, .int .i64 d]] w fun x w' => x = .returned (.bool true) ∧ Below w.heap.size w w') (HT : ∀ w : World, Calls Try.prog 29 #[.agg #[.int .i64 (V 0), .int .i64 (V 1), .int .i64 (V 2), .int .i64 (V 3), .int .i64 (V 4), .int .i64 (V 5)], .agg #[.int .i64 (V 0), .int .i64 (V 1), .int .i64 (V 2), .int .i64 (V 3), .int .i64 (V 4), .int .i64 (V 5)], .agg #[.int .i64 p, .int .i64 q]] w fun x w' => x = .returned (.bool true) ∧ Below w.heap.size w w') (HA : ∀ w : World, Calls Try.prog 22 #[] w fun x w' => x = .returned (.bool true) ∧ Below w.heap.size w w')
    (H0 : ∀ w : World, Calls Try.prog 9 #[.int .i64 axis, .agg #[.int .i64 n, .int .i64 d]] w fun x w' => x = .returned (.tuple #[.agg #[.int .i64 (M 0), .int .i64 (M 1), .int .i64 (M 2), .int .i64 (M 3), .int .i64 (M 4), .int .i64 (M 5), .int .i64 (M 6), .int .i64 (M 7), .int .i64 (M 8), .int .i64 (M 9), .int .i64 (M 10), .int .i64 (M 11), .int .i64 (M 12), .int .i64 (M 13), .int .i64 (M 14), .int .i64 (M 15), .int .i64 (M 16), .int .i64 (M 17)], .int .i64 0]) ∧ Below w.heap.size w w')
    (H1 : ∀ w : World, Calls Try.prog 9 #[.int .i64 other, .agg #[.int .i64 p, .int .i64 q]] w fun x w' => x = .returned (.tuple #[.agg #[.int .i64 (N 0), .int .i64 (N 1), .int .i64 (N 2), .int .i64 (N 3), .int .i64 (N 4), .int .i64 (N 5), .int .i64 (N 6), .int .i64 (N 7), .int .i64 (N 8), .int .i64 (N 9), .int .i64 (N 10), .int .i64 (N 11), .int .i64 (N 12), .int .i64 (N 13), .int .i64 (N 14), .int .i64 (N 15), .int .i64 (N 16), .int .i64 (N 17)], .int .i64 0]) ∧ Below w.heap.size w w')
    (H2 : ∀ w : World, Calls Try.prog 19 #[.agg #[.int .i64 (M 0), .int .i64 (M 1), .int .i64 (M 2), .int .i64 (M 3), .int .i64 (M 4), .int .i64 (M 5), .int .i64 (M 6), .int .i64 (M 7), .int .i64 (M 8), .int .i64 (M 9), .int .i64 (M 10), .int .i64 (M 11), .int .i64 (M 12), .int .i64 (M 13), .int .i64 (M 14), .int .i64 (M 15), .int .i64 (M 16), .int .i64 (M 17)], .agg #[.int .i64 (N 0), .int .i64 (N 1), .int .i64 (N 2), .int .i64 (N 3), .int .i64 (N 4), .int .i64 (N 5), .int .i64 (N 6), .int .i64 (N 7), .int .i64 (N 8), .int .i64 (N 9), .int .i64 (N 10), .int .i64 (N 11), .int .i64 (N 12), .int .i64 (N 13), .int .i64 (N 14), .int .i64 (N 15), .int .i64 (N 16), .int .i64 (N 17)]] w fun x w' => x = .returned (.tuple #[.agg #[.int .i64 (P 0), .int .i64 (P 1), .int .i64 (P 2), .int .i64 (P 3), .int .i64 (P 4), .int .i64 (P 5), .int .i64 (P 6), .int .i64 (P 7), .int .i64 (P 8), .int .i64 (P 9), .int .i64 (P 10), .int .i64 (P 11), .int .i64 (P 12), .int .i64 (P 13), .int .i64 (P 14), .int .i64 (P 15), .int .i64 (P 16), .int .i64 (P 17)], .int .i64 0]) ∧ Below w.heap.size w w')
    (H3 : ∀ w : World, Calls Try.prog 10 #[.agg #[.int .i64 (N 0), .int .i64 (N 1), .int .i64 (N 2), .int .i64 (N 3), .int .i64 (N 4), .int .i64 (N 5), .int .i64 (N 6), .int .i64 (N 7), .int .i64 (N 8), .int .i64 (N 9), .int .i64 (N 10), .int .i64 (N 11), .int .i64 (N 12), .int .i64 (N 13), .int .i64 (N 14), .int .i64 (N 15), .int .i64 (N 16), .int .i64 (N 17)], .agg #[.int .i64 (V 0), .int .i64 (V 1), .int .i64 (V 2), .int .i64 (V 3), .int .i64 (V 4), .int .i64 (V 5)]] w fun x w' => x = .returned (.tuple #[.agg #[.int .i64 (X 0), .int .i64 (X 1), .int .i64 (X 2), .int .i64 (X 3), .int .i64 (X 4), .int .i64 (X 5)], .int .i64 e1]) ∧ Below w.heap.size w w')
    (H4 : ∀ w : World, Calls Try.prog 10 #[.agg #[.int .i64 (M 0), .int .i64 (M 1), .int .i64 (M 2), .int .i64 (M 3), .int .i64 (M 4), .int .i64 (M 5), .int .i64 (M 6), .int .i64 (M 7), .int .i64 (M 8), .int .i64 (M 9), .int .i64 (M 10), .int .i64 (M 11), .int .i64 (M 12), .int .i64 (M 13), .int .i64 (M 14), .int .i64 (M 15), .int .i64 (M 16), .int .i64 (M 17)], .agg #[.int .i64 (X 0), .int .i64 (X 1), .int .i64 (X 2), .int .i64 (X 3), .int .i64 (X 4), .int .i64 (X 5)]] w fun x w' => x = .returned (.tuple #[.agg #[.int .i64 (Y 0), .int .i64 (Y 1), .int .i64 (Y 2), .int .i64 (Y 3), .int .i64 (Y 4), .int .i64 (Y 5)], .int .i64 e2]) ∧ Below w.heap.size w w')
    (H5 : ∀ w : World, Calls Try.prog 10 #[.agg #[.int .i64 (P 0), .int .i64 (P 1), .int .i64 (P 2), .int .i64 (P 3), .int .i64 (P 4), .int .i64 (P 5), .int .i64 (P 6), .int .i64 (P 7), .int .i64 (P 8), .int .i64 (P 9), .int .i64 (P 10), .int .i64 (P 11), .int .i64 (P 12), .int .i64 (P 13), .int .i64 (P 14), .int .i64 (P 15), .int .i64 (P 16), .int .i64 (P 17)], .agg #[.int .i64 (V 0), .int .i64 (V 1), .int .i64 (V 2), .int .i64 (V 3), .int .i64 (V 4), .int .i64 (V 5)]] w fun x w' => x = .returned (.tuple #[.agg #[.int .i64 (Z 0), .int .i64 (Z 1), .int .i64 (Z 2), .int .i64 (Z 3), .int .i64 (Z 4), .int .i64 (Z 5)], .int .i64 e3]) ∧ Below w.heap.size w w')
    (H6 : ∀ w : World, Calls Try.prog 13 #[.agg #[.int .i64 (P 0), .int .i64 (P 1), .int .i64 (P 2), .int .i64 (P 3), .int .i64 (P 4), .int .i64 (P 5), .int .i64 (P 6), .int .i64 (P 7), .int .i64 (P 8), .int .i64 (P 9), .int .i64 (P 10), .int .i64 (P 11), .int .i64 (P 12), .int .i64 (P 13), .int .i64 (P 14), .int .i64 (P 15), .int .i64 (P 16), .int .i64 (P 17)]] w fun x w' => x = .returned (.tuple #[.bool b, .int .i64 e4]) ∧ Below w.heap.size w w')
    (H7 : ∀ w : World, Calls Try.prog 31 #[.agg #[.int .i64 n, .int .i64 d], .agg #[.int .i64 p, .int .i64 q]] w fun x w' => x = .returned (.tuple #[.agg #[.int .i64 m1, .int .i64 m2], .int .i64 0]) ∧ Below w.heap.size w w')
    (H8 : ∀ w : World, Calls Try.prog 32 #[.agg #[.int .i64 1, .int .i64 1], .agg #[.int .i64 m1, .int .i64 m2]] w fun x w' => x = .returned (.tuple #[.agg #[.int .i64 l1, .int .i64 l2], .int .i64 0]) ∧ Below w.heap.size w w')
    (H9 : ∀ w : World, Calls Try.prog 33 #[.agg #[.int .i64 n, .int .i64 d], .agg #[.int .i64 p, .int .i64 q]] w fun x w' => x = .returned (.tuple #[.agg #[.int .i64 a1, .int .i64 a2], .int .i64 0]) ∧ Below w.heap.size w w')
    (H10 : ∀ w : World, Calls Try.prog 34 #[.agg #[.int .i64 a1, .int .i64 a2], .agg #[.int .i64 l1, .int .i64 l2]] w fun x w' => x = .returned (.tuple #[.agg #[.int .i64 r1, .int .i64 r2], .int .i64 e5]) ∧ Below w.heap.size w w')
    (w : World) :
    Calls Try.prog 7 #[.agg #[.int .i64 (V 0), .int .i64 (V 1), .int .i64 (V 2), .int .i64 (V 3), .int .i64 (V 4), .int .i64 (V 5)], .int .i64 axis, .int .i64 other, .agg #[.int .i64 n, .int .i64 d], .agg #[.int .i64 p, .int .i64 q]] w fun x w' => x = .returned (.bool true) ∧ Below w.heap.size w w' := by
  have SA := Lib.hid HS
  have SB := Lib.hid HT
  have AL := Lib.hid HA
  have HY := Lib.hid hY
  have HI := Lib.hid hI
  have HZ := Lib.hid hZ
  have HG := Lib.hid hG
  have K0 := Lib.hid H0
  have K1 := Lib.hid H1
  have K2 := Lib.hid H2
  have K3 := Lib.hid H3
  have K4 := Lib.hid H4
  have K5 := Lib.hid H5
  have K6 := Lib.hid H6
  have K7 := Lib.hid H7
  have K8 := Lib.hid H8
  have K9 := Lib.hid H9
  have K10 := Lib.hid H10
  clear HS HT HA hY hI hZ hG H0 H1 H2 H3 H4 H5 H6 H7 H8 H9 H10
  have dAl := dAl; have dSt := dSt
  go_enter Try.func7, Try.ntmps7
  go_upto_region 1 with fail
  refine opq (fun wx => Cs wx (w.heap.size) 6 V ∧ Cs wx (w.heap.size + 1) 2 (fq2 n d) ∧ Cs wx (w.heap.size + 1 + 1) 2 (fq2 p q) ∧ w.heap.size + 1 + 1 < wx.heap.size ∧ Below w.heap.size w wx) ?_ ?_
  · exact ⟨cs_alloc _ (cs_alloc _ (cs_new rfl (arrV V)) (by simp)) (by simp <;> omega), cs_alloc _ (cs_new (by simp) (arq2 n d)) (by simp), cs_new (by simp) (arq2 p q), by simp, kb⟩
  rintro w0 ⟨cV, cS, cT, zs, HBa⟩
  have hV : ∀ o, o < 6 → w0.cell? ⟨w.heap.size, o, none⟩ = some (.int .i64 (V o)) := cV
  have hS : ∀ o, o < 2 → w0.cell? ⟨w.heap.size + 1, o, none⟩ = some (.int .i64 (fq2 n d o)) := cS
  have hT : ∀ o, o < 2 → w0.cell? ⟨w.heap.size + 1 + 1, o, none⟩ = some (.int .i64 (fq2 p q o)) := cT
  have i0 : fq2 n d 0 = n := rfl
  have i1 : fq2 n d 1 = d := rfl
  have j0 : fq2 p q 0 = p := rfl
  have j1 : fq2 p q 1 = q := rfl
  go_wp2_with fail
  with_reducible refine (SA.out _).mono ?_
  rintro e v0 ⟨rfl, hb⟩
  clear hV hS hT
  replace cV := cs_below cV hb (by omega)
  replace cS := cs_below cS hb (by omega)
  replace cT := cs_below cT hb (by omega)
  replace HBa := HBa.trans (hb.mono (by omega))
  replace zs := Nat.lt_of_lt_of_le zs hb.size
  clear hb
  have hV : ∀ o, o < 6 → v0.cell? ⟨w.heap.size, o, none⟩ = some (.int .i64 (V o)) := cV
  have hS : ∀ o, o < 2 → v0.cell? ⟨w.heap.size + 1, o, none⟩ = some (.int .i64 (fq2 n d o)) := cS
  have hT : ∀ o, o < 2 → v0.cell? ⟨w.heap.size + 1 + 1, o, none⟩ = some (.int .i64 (fq2 p q o)) := cT
  go_wp2_with fail
  with_reducible refine (SB.out _).mono ?_
  rintro e v1 ⟨rfl, hb⟩
  clear hV hS hT
  replace cV := cs_below cV hb (by omega)
  replace cS := cs_below cS hb (by omega)
  replace cT := cs_below cT hb (by omega)
  replace HBa := HBa.trans (hb.mono (by omega))
  replace zs := Nat.lt_of_lt_of_le zs hb.size
  clear hb
  have hV : ∀ o, o < 6 → v1.cell? ⟨w.heap.size, o, none⟩ = some (.int .i64 (V o)) := cV
  have hS : ∀ o, o < 2 → v1.cell? ⟨w.heap.size + 1, o, none⟩ = some (.int .i64 (fq2 n d o)) := cS
  have hT : ∀ o, o < 2 → v1.cell? ⟨w.heap.size + 1 + 1, o, none⟩ = some (.int .i64 (fq2 p q o)) := cT
  go_upto_region 3 with fail
  clear SA SB hV hS hT i0 i1 j0 j1 f0 f1 f2 f3 f4 f5 f6 f7
  go_step
  refine wpList_plain rfl (fun K hK => ?_)
  go_big_op
  refine hK _ _ ?_
  clear hK K
  have hV : ∀ o, o < 2 → v1.cell? ⟨w.heap.size + 1, o, none⟩ = some (.int .i64 ((fq2 n d) o)) := cS
  have e0 : (fq2 n d) 0 = n := rfl
  have e1 : (fq2 n d) 1 = d := rfl
  refine wpList_plain rfl (fun K hK => ?_)
  go_big_op
  refine hK _ _ ?_
  clear hK K
  clear hV e0 e1
  have AC := K0.out
  refine wpList_plain rfl (fun K hK => ?_)
  go_big_op
  with_reducible refine (AC _).mono ?_
  rintro e v2 ⟨rfl, hb⟩
  simp only []
  refine hK _ _ ?_
  clear hK K
  replace cV := cs_below cV hb (by omega)
  replace cS := cs_below cS hb (by omega)
  replace cT := cs_below cT hb (by omega)
  replace HBa := HBa.trans (hb.mono (by omega))
  replace zs := Nat.lt_of_lt_of_le zs hb.size
  clear hb
  clear AC
  refine wpList_plain rfl (fun K hK => ?_)
  go_big_op
  refine hK _ _ ?_
  clear hK K
  refine wpList_plain rfl (fun K hK => ?_)
  go_big_op
  refine hK _ _ ?_
  clear hK K
  refine wpList_plain rfl (fun K hK => ?_)
  go_big_op
  refine hK _ _ ?_
  clear hK K
  refine wpList_plain rfl (fun K hK => ?_)
  go_big_op
  refine hK _ _ ?_
  clear hK K
  refine store18 (.tmp 11) (.tmp 88) v2.heap.size M (fun _ => 0) (cs_new rfl arr0) (fs_new rfl) rfl rfl rfl rfl ?_
  intro u4 cq3 fR sX bX
  have hb := bX v2.heap.size v2 (Nat.le_refl _) (bal (b0 _) _)
  have zq3 : v2.heap.size < u4.heap.size := by rw [sX]; simp
  have y5 := zs
  replace cV := cs_below cV hb (by omega)
  replace cS := cs_below cS hb (by omega)
  replace cT := cs_below cT hb (by omega)
  replace HBa := HBa.trans (hb.mono (by omega))
  replace zs := Nat.lt_of_lt_of_le zs hb.size
  replace zs := zq3
  clear zq3 hb bX sX fR
  generalize hq : v2.heap.size = q3 at *
  clear hq
  go_upto_region 4 with fail
  generalize (.tuple #[.agg #[.int .i64 (M 0), .int .i64 (M 1), .int .i64 (M 2), .int .i64 (M 3), .int .i64 (M 4), .int .i64 (M 5), .int .i64 (M 6), .int .i64 (M 7), .int .i64 (M 8), .int .i64 (M 9), .int .i64 (M 10), .int .i64 (M 11), .int .i64 (M 12), .int .i64 (M 13), .int .i64 (M 14), .int .i64 (M 15), .int .i64 (M 16), .int .i64 (M 17)], .int .i64 0] : Value) = x6
  generalize (.agg #[.int .i64 (M 0), .int .i64 (M 1), .int .i64 (M 2), .int .i64 (M 3), .int .i64 (M 4), .int .i64 (M 5), .int .i64 (M 6), .int .i64 (M 7), .int .i64 (M 8), .int .i64 (M 9), .int .i64 (M 10), .int .i64 (M 11), .int .i64 (M 12), .int .i64 (M 13), .int .i64 (M 14), .int .i64 (M 15), .int .i64 (M 16), .int .i64 (M 17)] : Value) = x7
  clear K0
  go_step
  refine wpList_plain rfl (fun K hK => ?_)
  go_big_op
  refine hK _ _ ?_
  clear hK K
  have hV : ∀ o, o < 2 → u4.cell? ⟨w.heap.size + 1 + 1, o, none⟩ = some (.int .i64 ((fq2 p q) o)) := cT
  have e0 : (fq2 p q) 0 = p := rfl
  have e1 : (fq2 p q) 1 = q := rfl
  refine wpList_plain rfl (fun K hK => ?_)
  go_big_op
  refine hK _ _ ?_
  clear hK K
  clear hV e0 e1
  have AC := K1.out
  refine wpList_plain rfl (fun K hK => ?_)
  go_big_op
  with_reducible refine (AC _).mono ?_
  rintro e v8 ⟨rfl, hb⟩
  simp only []
  refine hK _ _ ?_
  clear hK K
  replace cV := cs_below cV hb (by omega)
  replace cS := cs_below cS hb (by omega)
  replace cT := cs_below cT hb (by omega)
  replace cq3 := cs_below cq3 hb (by omega)
  replace HBa := HBa.trans (hb.mono (by omega))
  replace zs := Nat.lt_of_lt_of_le zs hb.size
  clear hb
  clear AC
  refine wpList_plain rfl (fun K hK => ?_)
  go_big_op
  refine hK _ _ ?_
  clear hK K
  refine wpList_plain rfl (fun K hK => ?_)
  go_big_op
  refine hK _ _ ?_
  clear hK K
  refine wpList_plain rfl (fun K hK => ?_)
  go_big_op
  refine hK _ _ ?_
  clear hK K
  refine wpList_plain rfl (fun K hK => ?_)
  go_big_op
  refine hK _ _ ?_
  clear hK K
  refine store18 (.tmp 13) (.tmp 94) v8.heap.size N (fun _ => 0) (cs_new rfl arr0) (fs_new rfl) rfl rfl rfl rfl ?_
  intro u10 cq9 fR sX bX
  have hb := bX v8.heap.size v8 (Nat.le_refl _) (bal (b0 _) _)
  have zq9 : v8.heap.size < u10.heap.size := by rw [sX]; simp
  have y11 := zs
  replace cV := cs_below cV hb (by omega)
  replace cS := cs_below cS hb (by omega)
  replace cT := cs_below cT hb (by omega)
  replace cq3 := cs_below cq3 hb (by omega)
  replace HBa := HBa.trans (hb.mono (by omega))
  replace zs := Nat.lt_of_lt_of_le zs hb.size
  replace zs := zq9
  clear zq9 hb bX sX fR
  generalize hq : v8.heap.size = q9 at *
  clear hq
  go_upto_region 5 with fail
  generalize (.tuple #[.agg #[.int .i64 (N 0), .int .i64 (N 1), .int .i64 (N 2), .int .i64 (N 3), .int .i64 (N 4), .int .i64 (N 5), .int .i64 (N 6), .int .i64 (N 7), .int .i64 (N 8), .int .i64 (N 9), .int .i64 (N 10), .int .i64 (N 11), .int .i64 (N 12), .int .i64 (N 13), .int .i64 (N 14), .int .i64 (N 15), .int .i64 (N 16), .int .i64 (N 17)], .int .i64 0] : Value) = x12
  generalize (.agg #[.int .i64 (N 0), .int .i64 (N 1), .int .i64 (N 2), .int .i64 (N 3), .int .i64 (N 4), .int .i64 (N 5), .int .i64 (N 6), .int .i64 (N 7), .int .i64 (N 8), .int .i64 (N 9), .int .i64 (N 10), .int .i64 (N 11), .int .i64 (N 12), .int .i64 (N 13), .int .i64 (N 14), .int .i64 (N 15), .int .i64 (N 16), .int .i64 (N 17)] : Value) = x13
  clear K1
  go_step
  refine load18 (.tmp 11) _ M cq3 rfl rfl rfl ?_
  simp only [putA]
  refine load18 (.tmp 13) _ N cq9 rfl rfl rfl ?_
  simp only [putA]
  have AC := K2.out
  refine wpList_plain rfl (fun K hK => ?_)
  go_big_op
  with_reducible refine (AC _).mono ?_
  rintro e v14 ⟨rfl, hb⟩
  simp only []
  refine hK _ _ ?_
  clear hK K
  replace cV := cs_below cV hb (by omega)
  replace cS := cs_below cS hb (by omega)
  replace cT := cs_below cT hb (by omega)
  replace cq3 := cs_below cq3 hb (by omega)
  replace cq9 := cs_below cq9 hb (by omega)
  replace HBa := HBa.trans (hb.mono (by omega))
  replace zs := Nat.lt_of_lt_of_le zs hb.size
  clear hb
  clear AC
  refine wpList_plain rfl (fun K hK => ?_)
  go_big_op
  refine hK _ _ ?_
  clear hK K
  refine wpList_plain rfl (fun K hK => ?_)
  go_big_op
  refine hK _ _ ?_
  clear hK K
  refine wpList_plain rfl (fun K hK => ?_)
  go_big_op
  refine hK _ _ ?_
  clear hK K
  refine wpList_plain rfl (fun K hK => ?_)
  go_big_op
  refine hK _ _ ?_
  clear hK K
  refine store18 (.tmp 15) (.tmp 100) v14.heap.size P (fun _ => 0) (cs_new rfl arr0) (fs_new rfl) rfl rfl rfl rfl ?_
  intro u16 cq15 fR sX bX
  have hb := bX v14.heap.size v14 (Nat.le_refl _) (bal (b0 _) _)
  have zq15 : v14.heap.size < u16.heap.size := by rw [sX]; simp
  have y17 := zs
  replace cV := cs_below cV hb (by omega)
  replace cS := cs_below cS hb (by omega)
  replace cT := cs_below cT hb (by omega)
  replace cq3 := cs_below cq3 hb (by omega)
  replace cq9 := cs_below cq9 hb (by omega)
  replace HBa := HBa.trans (hb.mono (by omega))
  replace zs := Nat.lt_of_lt_of_le zs hb.size
  replace zs := zq15
  clear zq15 hb bX sX fR
  generalize hq : v14.heap.size = q15 at *
  clear hq
  go_upto_region 8 with fail
  generalize (.tuple #[.agg #[.int .i64 (P 0), .int .i64 (P 1), .int .i64 (P 2), .int .i64 (P 3), .int .i64 (P 4), .int .i64 (P 5), .int .i64 (P 6), .int .i64 (P 7), .int .i64 (P 8), .int .i64 (P 9), .int .i64 (P 10), .int .i64 (P 11), .int .i64 (P 12), .int .i64 (P 13), .int .i64 (P 14), .int .i64 (P 15), .int .i64 (P 16), .int .i64 (P 17)], .int .i64 0] : Value) = x18
  generalize (.agg #[.int .i64 (P 0), .int .i64 (P 1), .int .i64 (P 2), .int .i64 (P 3), .int .i64 (P 4), .int .i64 (P 5), .int .i64 (P 6), .int .i64 (P 7), .int .i64 (P 8), .int .i64 (P 9), .int .i64 (P 10), .int .i64 (P 11), .int .i64 (P 12), .int .i64 (P 13), .int .i64 (P 14), .int .i64 (P 15), .int .i64 (P 16), .int .i64 (P 17)] : Value) = x19
  clear K2
  go_step
  refine load18 (.tmp 13) _ N cq9 rfl rfl rfl ?_
  simp only [putA]
  have hV : ∀ o, o < 6 → u16.cell? ⟨w.heap.size, o, none⟩ = some (.int .i64 (V o)) := cV
  refine wpList_plain rfl (fun K hK => ?_)
  go_big_op
  refine hK _ _ ?_
  clear hK K
  clear hV
  have AC := K3.out
  refine wpList_plain rfl (fun K hK => ?_)
  go_big_op
  with_reducible refine (AC _).mono ?_
  rintro e v20 ⟨rfl, hb⟩
  simp only []
  refine hK _ _ ?_
  clear hK K
  replace cV := cs_below cV hb (by omega)
  replace cS := cs_below cS hb (by omega)
  replace cT := cs_below cT hb (by omega)
  replace cq3 := cs_below cq3 hb (by omega)
  replace cq9 := cs_below cq9 hb (by omega)
  replace cq15 := cs_below cq15 hb (by omega)
  replace HBa := HBa.trans (hb.mono (by omega))
  replace zs := Nat.lt_of_lt_of_le zs hb.size
  clear hb
  clear AC
  go_upto_region 9 with fail
  refine opq (fun wx => Cs wx (w.heap.size) 6 V ∧ Cs wx (w.heap.size + 1) 2 (fq2 n d) ∧ Cs wx (w.heap.size + 1 + 1) 2 (fq2 p q) ∧ Cs wx (q3) 18 M ∧ Cs wx (q9) 18 N ∧ Cs wx (q15) 18 P ∧ Cs wx v20.heap.size 6 X ∧ v20.heap.size < wx.heap.size ∧ Below w.heap.size w wx) ?_ ?_
  · have zb := HBa.size
    exact ⟨kc, kc, kc, kc, kc, kc, by (intro o ho; rcases (show o = 0 ∨ o = 1 ∨ o = 2 ∨ o = 3 ∨ o = 4 ∨ o = 5 by omega) with rfl | rfl | rfl | rfl | rfl | rfl <;> simp [fq2, fq6, go_sem]), by simp [World.setCell], kg⟩
  have y23 := zs
  clear cV cS cT cq3 cq9 cq15 HBa zs
  generalize hq : v20.heap.size = q21 at *
  clear hq
  rintro u22 ⟨cV, cS, cT, cq3, cq9, cq15, cq21, zs, HBa⟩
  clear K3
  go_step
  refine load18 (.tmp 11) _ M cq3 rfl rfl rfl ?_
  simp only [putA]
  have hV : ∀ o, o < 6 → u22.cell? ⟨q21, o, none⟩ = some (.int .i64 (X o)) := cq21
  refine wpList_plain rfl (fun K hK => ?_)
  go_big_op
  refine hK _ _ ?_
  clear hK K
  clear hV
  have AC := K4.out
  refine wpList_plain rfl (fun K hK => ?_)
  go_big_op
  with_reducible refine (AC _).mono ?_
  rintro e v24 ⟨rfl, hb⟩
  simp only []
  refine hK _ _ ?_
  clear hK K
  replace cV := cs_below cV hb (by omega)
  replace cS := cs_below cS hb (by omega)
  replace cT := cs_below cT hb (by omega)
  replace cq3 := cs_below cq3 hb (by omega)
  replace cq9 := cs_below cq9 hb (by omega)
  replace cq15 := cs_below cq15 hb (by omega)
  replace cq21 := cs_below cq21 hb (by omega)
  replace HBa := HBa.trans (hb.mono (by omega))
  replace zs := Nat.lt_of_lt_of_le zs hb.size
  clear hb
  clear AC
  go_upto_region 10 with fail
  refine opq (fun wx => Cs wx (w.heap.size) 6 V ∧ Cs wx (w.heap.size + 1) 2 (fq2 n d) ∧ Cs wx (w.heap.size + 1 + 1) 2 (fq2 p q) ∧ Cs wx (q3) 18 M ∧ Cs wx (q9) 18 N ∧ Cs wx (q15) 18 P ∧ Cs wx (q21) 6 X ∧ Cs wx v24.heap.size 6 Y ∧ v24.heap.size < wx.heap.size ∧ Below w.heap.size w wx) ?_ ?_
  · have zb := HBa.size
    exact ⟨kc, kc, kc, kc, kc, kc, kc, by (intro o ho; rcases (show o = 0 ∨ o = 1 ∨ o = 2 ∨ o = 3 ∨ o = 4 ∨ o = 5 by omega) with rfl | rfl | rfl | rfl | rfl | rfl <;> simp [fq2, fq6, go_sem]), by simp [World.setCell], kg⟩
  have y27 := zs
  clear cV cS cT cq3 cq9 cq15 cq21 HBa zs
  generalize hq : v24.heap.size = q25 at *
  clear hq
  rintro u26 ⟨cV, cS, cT, cq3, cq9, cq15, cq21, cq25, zs, HBa⟩
  clear K4
  go_step
  refine load18 (.tmp 15) _ P cq15 rfl rfl rfl ?_
  simp only [putA]
  have hV : ∀ o, o < 6 → u26.cell? ⟨w.heap.size, o, none⟩ = some (.int .i64 (V o)) := cV
  refine wpList_plain rfl (fun K hK => ?_)
  go_big_op
  refine hK _ _ ?_
  clear hK K
  clear hV
  have AC := K5.out
  refine wpList_plain rfl (fun K hK => ?_)
  go_big_op
  with_reducible refine (AC _).mono ?_
  rintro e v28 ⟨rfl, hb⟩
  simp only []
  refine hK _ _ ?_
  clear hK K
  replace cV := cs_below cV hb (by omega)
  replace cS := cs_below cS hb (by omega)
  replace cT := cs_below cT hb (by omega)
  replace cq3 := cs_below cq3 hb (by omega)
  replace cq9 := cs_below cq9 hb (by omega)
  replace cq15 := cs_below cq15 hb (by omega)
  replace cq21 := cs_below cq21 hb (by omega)
  replace cq25 := cs_below cq25 hb (by omega)
  replace HBa := HBa.trans (hb.mono (by omega))
  replace zs := Nat.lt_of_lt_of_le zs hb.size
  clear hb
  clear AC
  go_upto_region 11 with fail
  refine opq (fun wx => Cs wx (w.heap.size) 6 V ∧ Cs wx (w.heap.size + 1) 2 (fq2 n d) ∧ Cs wx (w.heap.size + 1 + 1) 2 (fq2 p q) ∧ Cs wx (q3) 18 M ∧ Cs wx (q9) 18 N ∧ Cs wx (q15) 18 P ∧ Cs wx (q21) 6 X ∧ Cs wx (q25) 6 Y ∧ Cs wx v28.heap.size 6 Z ∧ v28.heap.size < wx.heap.size ∧ Below w.heap.size w wx) ?_ ?_
  · have zb := HBa.size
    exact ⟨kc, kc, kc, kc, kc, kc, kc, kc, by (intro o ho; rcases (show o = 0 ∨ o = 1 ∨ o = 2 ∨ o = 3 ∨ o = 4 ∨ o = 5 by omega) with rfl | rfl | rfl | rfl | rfl | rfl <;> simp [fq2, fq6, go_sem]), by simp [World.setCell], kg⟩
  have y31 := zs
  clear cV cS cT cq3 cq9 cq15 cq21 cq25 HBa zs
  generalize hq : v28.heap.size = q29 at *
  clear hq
  rintro u30 ⟨cV, cS, cT, cq3, cq9, cq15, cq21, cq25, cq29, zs, HBa⟩
  clear K5
  go_cut [144] (fun s144 wx => s144 = .bool false ∧ Below u30.heap.size u30 wx)
  case first =>
    have hY : ∀ o, o < 6 → u30.cell? ⟨q25, o, none⟩ = some (.int .i64 (Y o)) := cq25
    have hZ : ∀ o, o < 6 → u30.cell? ⟨q29, o, none⟩ = some (.int .i64 (Z o)) := cq29
    by_cases k1 : e1 = 0
    · subst k1
      by_cases k2 : e2 = 0
      · subst k2
        by_cases k3 : e3 = 0
        · subst k3
          have y0 := HY.out rfl rfl rfl 0 (by omega)
          have y1 := HY.out rfl rfl rfl 1 (by omega)
          have y2 := HY.out rfl rfl rfl 2 (by omega)
          have y3 := HY.out rfl rfl rfl 3 (by omega)
          have y4 := HY.out rfl rfl rfl 4 (by omega)
          have y5 := HY.out rfl rfl rfl 5 (by omega)
          clear HY
          go_wp2_with fail
          go_meet
          exact ⟨rfl, Below.refl _ _⟩
        · have g3 : (e3 == 0) = false := by simpa using k3
          clear HY
          go_wp2_with fail
          go_meet
          exact ⟨rfl, Below.refl _ _⟩
      · have g2 : (e2 == 0) = false := by simpa using k2
        clear HY
        go_wp2_with fail
        go_meet
        exact ⟨rfl, Below.refl _ _⟩
    · have g1 : (e1 == 0) = false := by simpa using k1
      clear HY
      go_wp2_with fail
      go_meet
      exact ⟨rfl, Below.refl _ _⟩
  case rest =>
  obtain ⟨rfl, hb⟩ := hcut
  replace cV := cs_below cV hb (by omega)
  replace cS := cs_below cS hb (by omega)
  replace cT := cs_below cT hb (by omega)
  replace cq3 := cs_below cq3 hb (by omega)
  replace cq9 := cs_below cq9 hb (by omega)
  replace cq15 := cs_below cq15 hb (by omega)
  replace cq21 := cs_below cq21 hb (by omega)
  replace cq25 := cs_below cq25 hb (by omega)
  replace cq29 := cs_below cq29 hb (by omega)
  replace HBa := HBa.trans (hb.mono (by omega))
  replace zs := Nat.lt_of_lt_of_le zs hb.size
  clear hb
  clear HY
  go_upto_region 13 with fail
  go_step
  refine load18 (.tmp 15) _ P cq15 rfl rfl rfl ?_
  simp only [putA]
  have AC := K6.out
  refine wpList_plain rfl (fun K hK => ?_)
  go_big_op
  with_reducible refine (AC _).mono ?_
  rintro e v32 ⟨rfl, hb⟩
  simp only []
  refine hK _ _ ?_
  clear hK K
  replace cV := cs_below cV hb (by omega)
  replace cS := cs_below cS hb (by omega)
  replace cT := cs_below cT hb (by omega)
  replace cq3 := cs_below cq3 hb (by omega)
  replace cq9 := cs_below cq9 hb (by omega)
  replace cq15 := cs_below cq15 hb (by omega)
  replace cq21 := cs_below cq21 hb (by omega)
  replace cq25 := cs_below cq25 hb (by omega)
  replace cq29 := cs_below cq29 hb (by omega)
  replace HBa := HBa.trans (hb.mono (by omega))
  replace zs := Nat.lt_of_lt_of_le zs hb.size
  clear hb
  clear AC
  go_upto_region 14 with fail
  clear K6
  go_cut [155] (fun s155 wx => s155 = .bool false ∧ Below v32.heap.size v32 wx)
  case first =>
    by_cases k4 : e4 = 0
    · have hb4 := HI.out k4
      subst k4 hb4
      clear HI
      go_wp2_with fail
      go_meet
      exact ⟨rfl, Below.refl _ _⟩
    · have g4 : (e4 == 0) = false := by simpa using k4
      clear HI
      go_wp2_with fail
      go_meet
      exact ⟨rfl, Below.refl _ _⟩
  case rest =>
  obtain ⟨rfl, hb⟩ := hcut
  replace cV := cs_below cV hb (by omega)
  replace cS := cs_below cS hb (by omega)
  replace cT := cs_below cT hb (by omega)
  replace cq3 := cs_below cq3 hb (by omega)
  replace cq9 := cs_below cq9 hb (by omega)
  replace cq15 := cs_below cq15 hb (by omega)
  replace cq21 := cs_below cq21 hb (by omega)
  replace cq25 := cs_below cq25 hb (by omega)
  replace cq29 := cs_below cq29 hb (by omega)
  replace HBa := HBa.trans (hb.mono (by omega))
  replace zs := Nat.lt_of_lt_of_le zs hb.size
  clear hb
  clear HI
  go_upto_region 16 with fail
  go_step
  have hV : ∀ o, o < 2 → wc.cell? ⟨w.heap.size + 1, o, none⟩ = some (.int .i64 ((fq2 n d) o)) := cS
  have e0 : (fq2 n d) 0 = n := rfl
  have e1 : (fq2 n d) 1 = d := rfl
  refine wpList_plain rfl (fun K hK => ?_)
  go_big_op
  refine hK _ _ ?_
  clear hK K
  clear hV e0 e1
  have hV : ∀ o, o < 2 → wc.cell? ⟨w.heap.size + 1 + 1, o, none⟩ = some (.int .i64 ((fq2 p q) o)) := cT
  have e0 : (fq2 p q) 0 = p := rfl
  have e1 : (fq2 p q) 1 = q := rfl
  refine wpList_plain rfl (fun K hK => ?_)
  go_big_op
  refine hK _ _ ?_
  clear hK K
  clear hV e0 e1
  have AC := K7.out
  refine wpList_plain rfl (fun K hK => ?_)
  go_big_op
  with_reducible refine (AC _).mono ?_
  rintro e v33 ⟨rfl, hb⟩
  simp only []
  refine hK _ _ ?_
  clear hK K
  replace cV := cs_below cV hb (by omega)
  replace cS := cs_below cS hb (by omega)
  replace cT := cs_below cT hb (by omega)
  replace cq3 := cs_below cq3 hb (by omega)
  replace cq9 := cs_below cq9 hb (by omega)
  replace cq15 := cs_below cq15 hb (by omega)
  replace cq21 := cs_below cq21 hb (by omega)
  replace cq25 := cs_below cq25 hb (by omega)
  replace cq29 := cs_below cq29 hb (by omega)
  replace HBa := HBa.trans (hb.mono (by omega))
  replace zs := Nat.lt_of_lt_of_le zs hb.size
  clear hb
  clear AC
  go_upto_region 17 with fail
  refine opq (fun wx => Cs wx (w.heap.size) 6 V ∧ Cs wx (w.heap.size + 1) 2 (fq2 n d) ∧ Cs wx (w.heap.size + 1 + 1) 2 (fq2 p q) ∧ Cs wx (q3) 18 M ∧ Cs wx (q9) 18 N ∧ Cs wx (q15) 18 P ∧ Cs wx (q21) 6 X ∧ Cs wx (q25) 6 Y ∧ Cs wx (q29) 6 Z ∧ Cs wx v33.heap.size 2 (fq2 m1 m2) ∧ v33.heap.size < wx.heap.size ∧ Below w.heap.size w wx) ?_ ?_
  · have zb := HBa.size
    exact ⟨kc, kc, kc, kc, kc, kc, kc, kc, kc, by (intro o ho; rcases (show o = 0 ∨ o = 1 by omega) with rfl | rfl <;> simp [fq2, fq6, go_sem]), by simp [World.setCell], kg⟩
  have y36 := zs
  clear cV cS cT cq3 cq9 cq15 cq21 cq25 cq29 HBa zs
  generalize hq : v33.heap.size = q34 at *
  clear hq
  rintro u35 ⟨cV, cS, cT, cq3, cq9, cq15, cq21, cq25, cq29, cq34, zs, HBa⟩
  clear K7
  have AC2 := K8.out
  go_cut [27, 28] (fun s27 s28 wx => ∃ g : Nat, s27 = .pointer (some ⟨g, 0, none⟩) ∧ s28 = .int .i64 0 ∧ Cs wx g 2 (fq2 l1 l2) ∧ u35.heap.size ≤ g ∧ g < wx.heap.size ∧ Below u35.heap.size u35 wx)
  case first =>
    have xR := xRul
    refine wp_region_held_drew (S := (fun w' => Below u35.heap.size u35 w')) (by kernel_rfl) ?_ (fun hHeld => ?_)
    · exact Below.drew (Below.refl _ _)
    refine take2 1 (.tmp 25) q34 (fq2 m1 m2) rfl rfl (by kernel_rfl) (by kernel_rfl) (by kernel_rfl) (fun _ _ _ h => h) (by rfl) rfl (fun w k => cs_below cq34 k (by omega)) (by assumption) ?_
    try simp only [Act.put, List.setIfInBounds_toArray, List.set_cons_zero, List.set_cons_succ, fq6, fq2]
    refine wpAnyH_ready (rs := [0, 6]) (by kernel_rfl) (by simp) ?_
    refine AllReadyH.cons (o := _) rfl (fun K hK => ?_) ?_
    · go_simp
      with_reducible refine ((ref_Of 1) _).mono ?_
      rintro e w' ⟨rfl, hb⟩
      obtain ⟨l9, d9, rfl⟩ := toExt hb
      clear hb
      (try go_wp2_with fail)
      refine hK.out _ _ ?_ (fun hHeld2 => ?_)
      · exact kg
      clear hK K hHeld
      have hHeld := hHeld2
      clear hHeld2
      try simp only [Act.put, List.setIfInBounds_toArray, List.set_cons_zero, List.set_cons_succ, fq6, fq2]
      refine wpAnyH_ready (rs := [2, 6]) (by kernel_rfl) (by simp) ?_
      refine AllReadyH.cons (o := _) rfl (fun K hK => ?_) ?_
      · go_simp
        with_reducible refine (AC2 _).mono ?_
        rintro e w' ⟨rfl, hb⟩
        obtain ⟨l9, d9, rfl⟩ := toExt hb
        clear hb
        (try go_wp2_with fail)
        refine hK.out _ _ ?_ (fun hHeld2 => ?_)
        · exact kg
        clear hK K hHeld
        have hHeld := hHeld2
        clear hHeld2
        try simp only [Act.put, List.setIfInBounds_toArray, List.set_cons_zero, List.set_cons_succ, fq6, fq2]
        refine wpAnyH_take (i := 3) (oi := _) (v := ?_) rfl (by kernel_rfl) (by kernel_rfl) (by kernel_rfl) (fun _ _ _ h => h) (Or.inl ⟨by rfl, ?_⟩) (by assumption) ?_
        rotate_left
        · (intro w hSw; (try dsimp only at hSw); go_simp; (try with_reducible rfl))
        try simp only [Act.put, List.setIfInBounds_toArray, List.set_cons_zero, List.set_cons_succ, fq6, fq2]
        refine wpAnyH_take (i := 4) (oi := _) (v := ?_) rfl (by kernel_rfl) (by kernel_rfl) (by kernel_rfl) (fun _ _ _ h => h) (Or.inl ⟨by rfl, ?_⟩) (by assumption) ?_
        rotate_left
        · (intro w hSw; (try dsimp only at hSw); go_simp; (try with_reducible rfl))
        try simp only [Act.put, List.setIfInBounds_toArray, List.set_cons_zero, List.set_cons_succ, fq6, fq2]
        refine wpAnyH_take (i := 5) (oi := _) (v := ?_) rfl (by kernel_rfl) (by kernel_rfl) (by kernel_rfl) (fun _ _ _ h => h) (Or.inl ⟨by rfl, ?_⟩) (by assumption) ?_
        rotate_left
        · (intro w hSw; (try dsimp only at hSw); go_simp; (try with_reducible rfl))
        try simp only [Act.put, List.setIfInBounds_toArray, List.set_cons_zero, List.set_cons_succ, fq6, fq2]
        refine wpAnyH_ready (rs := [6]) (by kernel_rfl) (by simp) ?_
        refine AllReadyH.cons (o := _) rfl (fun K hK => ?_) ?_
        · go_simp
          refine hK.out _ _ ?_ (fun hHeld2 => ?_)
          · exact kg
          clear hK K hHeld
          have hHeld := hHeld2
          clear hHeld2
          try simp only [Act.put, List.setIfInBounds_toArray, List.set_cons_zero, List.set_cons_succ, fq6, fq2]
          refine wpAnyH_ready (rs := [7]) (by kernel_rfl) (by simp) ?_
          refine AllReadyH.cons (o := _) rfl (fun K hK => ?_) ?_
          · go_simp
            refine hK.out _ _ ?_ (fun hHeld2 => ?_)
            · exact kg
            clear hK K hHeld
            have hHeld := hHeld2
            clear hHeld2
            try simp only [Act.put, List.setIfInBounds_toArray, List.set_cons_zero, List.set_cons_succ, fq6, fq2]
            refine wpAnyH_ready (rs := [8]) (by kernel_rfl) (by simp) ?_
            refine AllReadyH.cons (o := _) rfl (fun K hK => ?_) ?_
            · go_simp
              refine hK.out _ _ ?_ (fun hHeld2 => ?_)
              · exact kg
              clear hK K hHeld
              have hHeld := hHeld2
              clear hHeld2
              try simp only [Act.put, List.setIfInBounds_toArray, List.set_cons_zero, List.set_cons_succ, fq6, fq2]
              refine wpAnyH_done (by kernel_rfl) ?_ _
              (try go_wp2_with fail)
              go_meet
              exact ⟨_, rfl, rfl, by (intro o ho; rcases (show o = 0 ∨ o = 1 by omega) with rfl | rfl <;> (simp (maxDischargeDepth := 8) [fq2, fq6, go_sem, kp, *])), by (first | omega | (simp [ext_size, World.setCell] <;> omega)), by (first | omega | (simp [ext_size, World.setCell] <;> omega)), kg⟩
            exact AllReadyH.nil
          exact AllReadyH.nil
        exact AllReadyH.nil
      refine AllReadyH.cons (o := _) rfl (fun K hK => ?_) ?_
      · go_simp
        refine hK.out _ _ ?_ (fun hHeld2 => ?_)
        · exact kg
        clear hK K hHeld
        have hHeld := hHeld2
        clear hHeld2
        try simp only [Act.put, List.setIfInBounds_toArray, List.set_cons_zero, List.set_cons_succ, fq6, fq2]
        refine wpAnyH_ready (rs := [2]) (by kernel_rfl) (by simp) ?_
        refine AllReadyH.cons (o := _) rfl (fun K hK => ?_) ?_
        · go_simp
          with_reducible refine (AC2 _).mono ?_
          rintro e w' ⟨rfl, hb⟩
          obtain ⟨l9, d9, rfl⟩ := toExt hb
          clear hb
          (try go_wp2_with fail)
          refine hK.out _ _ ?_ (fun hHeld2 => ?_)
          · exact kg
          clear hK K hHeld
          have hHeld := hHeld2
          clear hHeld2
          try simp only [Act.put, List.setIfInBounds_toArray, List.set_cons_zero, List.set_cons_succ, fq6, fq2]
          refine wpAnyH_take (i := 3) (oi := _) (v := ?_) rfl (by kernel_rfl) (by kernel_rfl) (by kernel_rfl) (fun _ _ _ h => h) (Or.inl ⟨by rfl, ?_⟩) (by assumption) ?_
          rotate_left
          · (intro w hSw; (try dsimp only at hSw); go_simp; (try with_reducible rfl))
          try simp only [Act.put, List.setIfInBounds_toArray, List.set_cons_zero, List.set_cons_succ, fq6, fq2]
          refine wpAnyH_take (i := 4) (oi := _) (v := ?_) rfl (by kernel_rfl) (by kernel_rfl) (by kernel_rfl) (fun _ _ _ h => h) (Or.inl ⟨by rfl, ?_⟩) (by assumption) ?_
          rotate_left
          · (intro w hSw; (try dsimp only at hSw); go_simp; (try with_reducible rfl))
          try simp only [Act.put, List.setIfInBounds_toArray, List.set_cons_zero, List.set_cons_succ, fq6, fq2]
          refine wpAnyH_take (i := 5) (oi := _) (v := ?_) rfl (by kernel_rfl) (by kernel_rfl) (by kernel_rfl) (fun _ _ _ h => h) (Or.inl ⟨by rfl, ?_⟩) (by assumption) ?_
          rotate_left
          · (intro w hSw; (try dsimp only at hSw); go_simp; (try with_reducible rfl))
          try simp only [Act.put, List.setIfInBounds_toArray, List.set_cons_zero, List.set_cons_succ, fq6, fq2]
          refine wpAnyH_ready (rs := [7]) (by kernel_rfl) (by simp) ?_
          refine AllReadyH.cons (o := _) rfl (fun K hK => ?_) ?_
          · go_simp
            refine hK.out _ _ ?_ (fun hHeld2 => ?_)
            · exact kg
            clear hK K hHeld
            have hHeld := hHeld2
            clear hHeld2
            try simp only [Act.put, List.setIfInBounds_toArray, List.set_cons_zero, List.set_cons_succ, fq6, fq2]
            refine wpAnyH_ready (rs := [8]) (by kernel_rfl) (by simp) ?_
            refine AllReadyH.cons (o := _) rfl (fun K hK => ?_) ?_
            · go_simp
              refine hK.out _ _ ?_ (fun hHeld2 => ?_)
              · exact kg
              clear hK K hHeld
              have hHeld := hHeld2
              clear hHeld2
              try simp only [Act.put, List.setIfInBounds_toArray, List.set_cons_zero, List.set_cons_succ, fq6, fq2]
              refine wpAnyH_done (by kernel_rfl) ?_ _
              (try go_wp2_with fail)
              go_meet
              exact ⟨_, rfl, rfl, by (intro o ho; rcases (show o = 0 ∨ o = 1 by omega) with rfl | rfl <;> (simp (maxDischargeDepth := 8) [fq2, fq6, go_sem, kp, *])), by (first | omega | (simp [ext_size, World.setCell] <;> omega)), by (first | omega | (simp [ext_size, World.setCell] <;> omega)), kg⟩
            exact AllReadyH.nil
          exact AllReadyH.nil
        exact AllReadyH.nil
      exact AllReadyH.nil
    refine AllReadyH.cons (o := _) rfl (fun K hK => ?_) ?_
    · go_simp
      refine hK.out _ _ ?_ (fun hHeld2 => ?_)
      · exact kg
      clear hK K hHeld
      have hHeld := hHeld2
      clear hHeld2
      try simp only [Act.put, List.setIfInBounds_toArray, List.set_cons_zero, List.set_cons_succ, fq6, fq2]
      refine wpAnyH_ready (rs := [0]) (by kernel_rfl) (by simp) ?_
      refine AllReadyH.cons (o := _) rfl (fun K hK => ?_) ?_
      · go_simp
        with_reducible refine ((ref_Of 1) _).mono ?_
        rintro e w' ⟨rfl, hb⟩
        obtain ⟨l9, d9, rfl⟩ := toExt hb
        clear hb
        (try go_wp2_with fail)
        refine hK.out _ _ ?_ (fun hHeld2 => ?_)
        · exact kg
        clear hK K hHeld
        have hHeld := hHeld2
        clear hHeld2
        try simp only [Act.put, List.setIfInBounds_toArray, List.set_cons_zero, List.set_cons_succ, fq6, fq2]
        refine wpAnyH_ready (rs := [2]) (by kernel_rfl) (by simp) ?_
        refine AllReadyH.cons (o := _) rfl (fun K hK => ?_) ?_
        · go_simp
          with_reducible refine (AC2 _).mono ?_
          rintro e w' ⟨rfl, hb⟩
          obtain ⟨l9, d9, rfl⟩ := toExt hb
          clear hb
          (try go_wp2_with fail)
          refine hK.out _ _ ?_ (fun hHeld2 => ?_)
          · exact kg
          clear hK K hHeld
          have hHeld := hHeld2
          clear hHeld2
          try simp only [Act.put, List.setIfInBounds_toArray, List.set_cons_zero, List.set_cons_succ, fq6, fq2]
          refine wpAnyH_take (i := 3) (oi := _) (v := ?_) rfl (by kernel_rfl) (by kernel_rfl) (by kernel_rfl) (fun _ _ _ h => h) (Or.inl ⟨by rfl, ?_⟩) (by assumption) ?_
          rotate_left
          · (intro w hSw; (try dsimp only at hSw); go_simp; (try with_reducible rfl))
          try simp only [Act.put, List.setIfInBounds_toArray, List.set_cons_zero, List.set_cons_succ, fq6, fq2]
          refine wpAnyH_take (i := 4) (oi := _) (v := ?_) rfl (by kernel_rfl) (by kernel_rfl) (by kernel_rfl) (fun _ _ _ h => h) (Or.inl ⟨by rfl, ?_⟩) (by assumption) ?_
          rotate_left
          · (intro w hSw; (try dsimp only at hSw); go_simp; (try with_reducible rfl))
          try simp only [Act.put, List.setIfInBounds_toArray, List.set_cons_zero, List.set_cons_succ, fq6, fq2]
          refine wpAnyH_take (i := 5) (oi := _) (v := ?_) rfl (by kernel_rfl) (by kernel_rfl) (by kernel_rfl) (fun _ _ _ h => h) (Or.inl ⟨by rfl, ?_⟩) (by assumption) ?_
          rotate_left
          · (intro w hSw; (try dsimp only at hSw); go_simp; (try with_reducible rfl))
          try simp only [Act.put, List.setIfInBounds_toArray, List.set_cons_zero, List.set_cons_succ, fq6, fq2]
          refine wpAnyH_ready (rs := [7]) (by kernel_rfl) (by simp) ?_
          refine AllReadyH.cons (o := _) rfl (fun K hK => ?_) ?_
          · go_simp
            refine hK.out _ _ ?_ (fun hHeld2 => ?_)
            · exact kg
            clear hK K hHeld
            have hHeld := hHeld2
            clear hHeld2
            try simp only [Act.put, List.setIfInBounds_toArray, List.set_cons_zero, List.set_cons_succ, fq6, fq2]
            refine wpAnyH_ready (rs := [8]) (by kernel_rfl) (by simp) ?_
            refine AllReadyH.cons (o := _) rfl (fun K hK => ?_) ?_
            · go_simp
              refine hK.out _ _ ?_ (fun hHeld2 => ?_)
              · exact kg
              clear hK K hHeld
              have hHeld := hHeld2
              clear hHeld2
              try simp only [Act.put, List.setIfInBounds_toArray, List.set_cons_zero, List.set_cons_succ, fq6, fq2]
              refine wpAnyH_done (by kernel_rfl) ?_ _
              (try go_wp2_with fail)
              go_meet
              exact ⟨_, rfl, rfl, by (intro o ho; rcases (show o = 0 ∨ o = 1 by omega) with rfl | rfl <;> (simp (maxDischargeDepth := 8) [fq2, fq6, go_sem, kp, *])), by (first | omega | (simp [ext_size, World.setCell] <;> omega)), by (first | omega | (simp [ext_size, World.setCell] <;> omega)), kg⟩
            exact AllReadyH.nil
          exact AllReadyH.nil
        exact AllReadyH.nil
      exact AllReadyH.nil
    exact AllReadyH.nil
  case rest =>
  obtain ⟨q37, rfl, rfl, cq37, y38, zn, hb⟩ := hcut
  clear AC2
  replace cV := cs_below cV hb (by omega)
  replace cS := cs_below cS hb (by omega)
  replace cT := cs_below cT hb (by omega)
  replace cq3 := cs_below cq3 hb (by omega)
  replace cq9 := cs_below cq9 hb (by omega)
  replace cq15 := cs_below cq15 hb (by omega)
  replace cq21 := cs_below cq21 hb (by omega)
  replace cq25 := cs_below cq25 hb (by omega)
  replace cq29 := cs_below cq29 hb (by omega)
  replace cq34 := cs_below cq34 hb (by omega)
  have y39 := Nat.lt_of_lt_of_le zs y38
  replace HBa := HBa.trans (hb.mono (by first | omega | exact HBa.size))
  replace zs := zn
  clear zn hb y38
  go_upto_region 18 with fail
  clear K8
  go_step
  have hV : ∀ o, o < 2 → wc.cell? ⟨w.heap.size + 1, o, none⟩ = some (.int .i64 ((fq2 n d) o)) := cS
  have e0 : (fq2 n d) 0 = n := rfl
  have e1 : (fq2 n d) 1 = d := rfl
  refine wpList_plain rfl (fun K hK => ?_)
  go_big_op
  refine hK _ _ ?_
  clear hK K
  clear hV e0 e1
  have hV : ∀ o, o < 2 → wc.cell? ⟨w.heap.size + 1 + 1, o, none⟩ = some (.int .i64 ((fq2 p q) o)) := cT
  have e0 : (fq2 p q) 0 = p := rfl
  have e1 : (fq2 p q) 1 = q := rfl
  refine wpList_plain rfl (fun K hK => ?_)
  go_big_op
  refine hK _ _ ?_
  clear hK K
  clear hV e0 e1
  have AC := K9.out
  refine wpList_plain rfl (fun K hK => ?_)
  go_big_op
  with_reducible refine (AC _).mono ?_
  rintro e v40 ⟨rfl, hb⟩
  simp only []
  refine hK _ _ ?_
  clear hK K
  replace cV := cs_below cV hb (by omega)
  replace cS := cs_below cS hb (by omega)
  replace cT := cs_below cT hb (by omega)
  replace cq3 := cs_below cq3 hb (by omega)
  replace cq9 := cs_below cq9 hb (by omega)
  replace cq15 := cs_below cq15 hb (by omega)
  replace cq21 := cs_below cq21 hb (by omega)
  replace cq25 := cs_below cq25 hb (by omega)
  replace cq29 := cs_below cq29 hb (by omega)
  replace cq34 := cs_below cq34 hb (by omega)
  replace cq37 := cs_below cq37 hb (by omega)
  replace HBa := HBa.trans (hb.mono (by omega))
  replace zs := Nat.lt_of_lt_of_le zs hb.size
  clear hb
  clear AC
  go_upto_region 21 with fail
  refine opq (fun wx => Cs wx (w.heap.size) 6 V ∧ Cs wx (w.heap.size + 1) 2 (fq2 n d) ∧ Cs wx (w.heap.size + 1 + 1) 2 (fq2 p q) ∧ Cs wx (q3) 18 M ∧ Cs wx (q9) 18 N ∧ Cs wx (q15) 18 P ∧ Cs wx (q21) 6 X ∧ Cs wx (q25) 6 Y ∧ Cs wx (q29) 6 Z ∧ Cs wx (q34) 2 (fq2 m1 m2) ∧ Cs wx (q37) 2 (fq2 l1 l2) ∧ Cs wx v40.heap.size 2 (fq2 a1 a2) ∧ v40.heap.size < wx.heap.size ∧ Below w.heap.size w wx) ?_ ?_
  · have zb := HBa.size
    exact ⟨kc, kc, kc, kc, kc, kc, kc, kc, kc, kc, kc, by (intro o ho; rcases (show o = 0 ∨ o = 1 by omega) with rfl | rfl <;> simp [fq2, fq6, go_sem]), by simp [World.setCell], kg⟩
  have y43 := zs
  clear cV cS cT cq3 cq9 cq15 cq21 cq25 cq29 cq34 cq37 HBa zs
  generalize hq : v40.heap.size = q41 at *
  clear hq
  rintro u42 ⟨cV, cS, cT, cq3, cq9, cq15, cq21, cq25, cq29, cq34, cq37, cq41, zs, HBa⟩
  clear K9
  go_step
  have hV : ∀ o, o < 2 → u42.cell? ⟨q41, o, none⟩ = some (.int .i64 ((fq2 a1 a2) o)) := cq41
  have e0 : (fq2 a1 a2) 0 = a1 := rfl
  have e1 : (fq2 a1 a2) 1 = a2 := rfl
  refine wpList_plain rfl (fun K hK => ?_)
  go_big_op
  refine hK _ _ ?_
  clear hK K
  clear hV e0 e1
  have hV : ∀ o, o < 2 → u42.cell? ⟨q37, o, none⟩ = some (.int .i64 ((fq2 l1 l2) o)) := cq37
  have e0 : (fq2 l1 l2) 0 = l1 := rfl
  have e1 : (fq2 l1 l2) 1 = l2 := rfl
  refine wpList_plain rfl (fun K hK => ?_)
  go_big_op
  refine hK _ _ ?_
  clear hK K
  clear hV e0 e1
  have AC := K10.out
  refine wpList_plain rfl (fun K hK => ?_)
  go_big_op
  with_reducible refine (AC _).mono ?_
  rintro e v44 ⟨rfl, hb⟩
  simp only []
  refine hK _ _ ?_
  clear hK K
  replace cV := cs_below cV hb (by omega)
  replace cS := cs_below cS hb (by omega)
  replace cT := cs_below cT hb (by omega)
  replace cq3 := cs_below cq3 hb (by omega)
  replace cq9 := cs_below cq9 hb (by omega)
  replace cq15 := cs_below cq15 hb (by omega)
  replace cq21 := cs_below cq21 hb (by omega)
  replace cq25 := cs_below cq25 hb (by omega)
  replace cq29 := cs_below cq29 hb (by omega)
  replace cq34 := cs_below cq34 hb (by omega)
  replace cq37 := cs_below cq37 hb (by omega)
  replace cq41 := cs_below cq41 hb (by omega)
  replace HBa := HBa.trans (hb.mono (by omega))
  replace zs := Nat.lt_of_lt_of_le zs hb.size
  clear hb
  clear AC
  go_upto_region 22 with fail
  refine opq (fun wx => Cs wx (w.heap.size) 6 V ∧ Cs wx (w.heap.size + 1) 2 (fq2 n d) ∧ Cs wx (w.heap.size + 1 + 1) 2 (fq2 p q) ∧ Cs wx (q3) 18 M ∧ Cs wx (q9) 18 N ∧ Cs wx (q15) 18 P ∧ Cs wx (q21) 6 X ∧ Cs wx (q25) 6 Y ∧ Cs wx (q29) 6 Z ∧ Cs wx (q34) 2 (fq2 m1 m2) ∧ Cs wx (q37) 2 (fq2 l1 l2) ∧ Cs wx (q41) 2 (fq2 a1 a2) ∧ Cs wx v44.heap.size 2 (fq2 r1 r2) ∧ v44.heap.size < wx.heap.size ∧ Below w.heap.size w wx) ?_ ?_
  · have zb := HBa.size
    exact ⟨kc, kc, kc, kc, kc, kc, kc, kc, kc, kc, kc, kc, by (intro o ho; rcases (show o = 0 ∨ o = 1 by omega) with rfl | rfl <;> simp [fq2, fq6, go_sem]), by simp [World.setCell], kg⟩
  have y47 := zs
  clear cV cS cT cq3 cq9 cq15 cq21 cq25 cq29 cq34 cq37 cq41 HBa zs
  generalize hq : v44.heap.size = q45 at *
  clear hq
  rintro u46 ⟨cV, cS, cT, cq3, cq9, cq15, cq21, cq25, cq29, cq34, cq37, cq41, cq45, zs, HBa⟩
  clear K10
  by_cases k0 : axis = other
  · subst k0
    by_cases k5 : e5 = 0
    · subst k5
      obtain ⟨TG, hm⟩ := HG.out rfl rfl
      have K11 := Lib.hid TG
      clear TG HG HZ
      go_upto_region 24 with fail
      go_step
      refine wpList_plain rfl (fun K hK => ?_)
      go_big_op
      refine hK _ _ ?_
      clear hK K
      have hV : ∀ o, o < 2 → u46.cell? ⟨q45, o, none⟩ = some (.int .i64 ((fq2 r1 r2) o)) := cq45
      have e0 : (fq2 r1 r2) 0 = r1 := rfl
      have e1 : (fq2 r1 r2) 1 = r2 := rfl
      refine wpList_plain rfl (fun K hK => ?_)
      go_big_op
      refine hK _ _ ?_
      clear hK K
      clear hV e0 e1
      have AC := K11.out
      refine wpList_plain rfl (fun K hK => ?_)
      go_big_op
      with_reducible refine (AC _).mono ?_
      rintro e v98 ⟨rfl, hb⟩
      simp only []
      refine hK _ _ ?_
      clear hK K
      replace cV := cs_below cV hb (by omega)
      replace cS := cs_below cS hb (by omega)
      replace cT := cs_below cT hb (by omega)
      replace cq3 := cs_below cq3 hb (by omega)
      replace cq9 := cs_below cq9 hb (by omega)
      replace cq15 := cs_below cq15 hb (by omega)
      replace cq21 := cs_below cq21 hb (by omega)
      replace cq25 := cs_below cq25 hb (by omega)
      replace cq29 := cs_below cq29 hb (by omega)
      replace cq34 := cs_below cq34 hb (by omega)
      replace cq37 := cs_below cq37 hb (by omega)
      replace cq41 := cs_below cq41 hb (by omega)
      replace cq45 := cs_below cq45 hb (by omega)
      replace HBa := HBa.trans (hb.mono (by omega))
      replace zs := Nat.lt_of_lt_of_le zs hb.size
      clear hb
      clear AC
      refine wpList_plain rfl (fun K hK => ?_)
      go_big_op
      refine hK _ _ ?_
      clear hK K
      refine wpList_plain rfl (fun K hK => ?_)
      go_big_op
      refine hK _ _ ?_
      clear hK K
      refine wpList_plain rfl (fun K hK => ?_)
      go_big_op
      refine hK _ _ ?_
      clear hK K
      refine wpList_plain rfl (fun K hK => ?_)
      go_big_op
      refine hK _ _ ?_
      clear hK K
      refine store18 (.tmp 33) (.tmp 211) v98.heap.size G (fun _ => 0) (cs_new rfl arr0) (fs_new rfl) rfl rfl rfl rfl ?_
      intro u100 cq99 fR sX bX
      have hb := bX v98.heap.size v98 (Nat.le_refl _) (bal (b0 _) _)
      have zq99 : v98.heap.size < u100.heap.size := by rw [sX]; simp
      have y101 := zs
      replace cV := cs_below cV hb (by omega)
      replace cS := cs_below cS hb (by omega)
      replace cT := cs_below cT hb (by omega)
      replace cq3 := cs_below cq3 hb (by omega)
      replace cq9 := cs_below cq9 hb (by omega)
      replace cq15 := cs_below cq15 hb (by omega)
      replace cq21 := cs_below cq21 hb (by omega)
      replace cq25 := cs_below cq25 hb (by omega)
      replace cq29 := cs_below cq29 hb (by omega)
      replace cq34 := cs_below cq34 hb (by omega)
      replace cq37 := cs_below cq37 hb (by omega)
      replace cq41 := cs_below cq41 hb (by omega)
      replace cq45 := cs_below cq45 hb (by omega)
      replace HBa := HBa.trans (hb.mono (by omega))
      replace zs := Nat.lt_of_lt_of_le zs hb.size
      replace zs := zq99
      clear zq99 hb bX sX fR
      generalize hq : v98.heap.size = q99 at *
      clear hq
      go_upto_region 25 with fail
      generalize (.tuple #[.agg #[.int .i64 (G 0), .int .i64 (G 1), .int .i64 (G 2), .int .i64 (G 3), .int .i64 (G 4), .int .i64 (G 5), .int .i64 (G 6), .int .i64 (G 7), .int .i64 (G 8), .int .i64 (G 9), .int .i64 (G 10), .int .i64 (G 11), .int .i64 (G 12), .int .i64 (G 13), .int .i64 (G 14), .int .i64 (G 15), .int .i64 (G 16), .int .i64 (G 17)], .int .i64 0] : Value) = x102
      generalize (.agg #[.int .i64 (G 0), .int .i64 (G 1), .int .i64 (G 2), .int .i64 (G 3), .int .i64 (G 4), .int .i64 (G 5), .int .i64 (G 6), .int .i64 (G 7), .int .i64 (G 8), .int .i64 (G 9), .int .i64 (G 10), .int .i64 (G 11), .int .i64 (G 12), .int .i64 (G 13), .int .i64 (G 14), .int .i64 (G 15), .int .i64 (G 16), .int .i64 (G 17)] : Value) = x103
      clear K11
      have ME := fun w => mat_eq G P w
      rw [hm] at ME
      go_step
      refine wpList_plain rfl (fun K hK => ?_)
      go_big_op
      refine hK _ _ ?_
      clear hK K
      refine wpList_plain rfl (fun K hK => ?_)
      go_big_op
      refine hK _ _ ?_
      clear hK K
      refine wpList_plain rfl (fun K hK => ?_)
      go_big_op
      refine hK _ _ ?_
      clear hK K
      refine load18g (.tmp 33) _ _ cq99 (by kernel_rfl) rfl rfl ?_
      simp only [putA]
      refine load18g (.tmp 15) _ _ cq15 (by kernel_rfl) rfl rfl ?_
      simp only [putA]
      refine plaingq (by kernel_rfl) (fun K hK => ?_)
      go_big_op
      refine hK _ _ ?_
      clear hK K
      refine wpList_plain rfl (fun K hK => ?_)
      go_big_op
      refine hK _ _ ?_
      clear hK K
      refine wpList_plain rfl (fun K hK => ?_)
      go_big_op
      refine hK _ _ ?_
      clear hK K
      refine plaingq (by kernel_rfl) (fun K hK => ?_)
      go_big_op
      with_reducible refine (AL.out _).mono ?_
      rintro e v104 ⟨rfl, hb⟩
      simp only []
      refine hK _ _ ?_
      clear hK K
      replace cV := cs_below cV hb (by omega)
      replace cS := cs_below cS hb (by omega)
      replace cT := cs_below cT hb (by omega)
      replace cq3 := cs_below cq3 hb (by omega)
      replace cq9 := cs_below cq9 hb (by omega)
      replace cq15 := cs_below cq15 hb (by omega)
      replace cq21 := cs_below cq21 hb (by omega)
      replace cq25 := cs_below cq25 hb (by omega)
      replace cq29 := cs_below cq29 hb (by omega)
      replace cq34 := cs_below cq34 hb (by omega)
      replace cq37 := cs_below cq37 hb (by omega)
      replace cq41 := cs_below cq41 hb (by omega)
      replace cq45 := cs_below cq45 hb (by omega)
      replace cq99 := cs_below cq99 hb (by omega)
      replace HBa := HBa.trans (hb.mono (by omega))
      replace zs := Nat.lt_of_lt_of_le zs hb.size
      clear hb
      refine wpList_plain rfl (fun K hK => ?_)
      go_big_op
      refine hK _ _ ?_
      clear hK K
      refine wpList_plain rfl (fun K hK => ?_)
      go_big_op
      refine hK _ _ ?_
      clear hK K
      go_wp2_with fail
      go_ret
      exact ⟨rfl, HBa⟩
    · have g5 : (e5 == 0) = false := by simpa using k5
      obtain rfl := HZ.out k5
      clear HZ HG
      have hL : ∀ o, o < 2 → u46.cell? ⟨q37, o, none⟩ = some (.int .i64 (fq2 0 l2 o)) := cq37
      have i0 : fq2 0 l2 0 = 0 := rfl
      go_wp2_with fail
      with_reducible refine (AL.out _).mono ?_
      rintro e z1 ⟨rfl, hb⟩
      go_wp2_with fail
      go_ret
      exact ⟨rfl, HBa.trans (hb.mono (by omega))⟩
  · have g0 : (axis == other) = false := by simpa using k0
    by_cases k5 : e5 = 0
    · subst k5
      clear HZ HG
      have hL : ∀ o, o < 2 → u46.cell? ⟨q37, o, none⟩ = some (.int .i64 (fq2 l1 l2 o)) := cq37
      have i0 : fq2 l1 l2 0 = l1 := rfl
      go_wp2_with fail
      with_reducible refine (AL.out _).mono ?_
      rintro e z1 ⟨rfl, hb⟩
      go_wp2_with fail
      go_ret
      exact ⟨rfl, HBa.trans (hb.mono (by omega))⟩
    · have g5 : (e5 == 0) = false := by simpa using k5
      obtain rfl := HZ.out k5
      clear HZ HG
      have hL : ∀ o, o < 2 → u46.cell? ⟨q37, o, none⟩ = some (.int .i64 (fq2 0 l2 o)) := cq37
      have i0 : fq2 0 l2 0 = 0 := rfl
      go_wp2_with fail
      with_reducible refine (AL.out _).mono ?_
      rintro e z1 ⟨rfl, hb⟩
      go_wp2_with fail
      go_ret
      exact ⟨rfl, HBa.trans (hb.mono (by omega))⟩
end Go.Proofs.Ytlijkebdaalldaa
