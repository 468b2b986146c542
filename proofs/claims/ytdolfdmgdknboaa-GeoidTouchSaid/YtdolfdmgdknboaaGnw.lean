/-
  GeoidNormal, walked: its calls by contracts.
-/
import Derived.Lib.Hide
import Derived.Test.YtdolfdmgdknboaaMA
import Derived.Test.YtdolfdmgdknboaaGca
import Derived.Deep.DeepCutAuto
import Derived.Deep.RegionHeld3
namespace Go.Proofs.Ytdolfdmgdknboaa
open Go.RowKit
set_option linter.unusedVariables false
set_option linter.unusedSimpArgs false

set_option maxRecDepth 100000 in
set_option maxHeartbeats 16000000 in
theorem gnormal_out_a (A B n d p q : Int) (H0 : ∀ w : World, Calls Try.prog 29 #[.agg #[.int .i64 A, .int .i64 B]] w fun x w' => x = .returned (.int .i64 2) ∧ Below w.heap.size w w') (HA : ∀ w : World, Calls Try.prog 37 #[] w fun x w' => x = .returned (.bool true) ∧ Below w.heap.size w w') (w : World) :
    Calls Try.prog 9 #[.agg #[.int .i64 A, .int .i64 B], .agg #[.int .i64 n, .int .i64 d], .agg #[.int .i64 p, .int .i64 q]] w fun x w' => x = .returned (.bool true) ∧ Below w.heap.size w w' := by
  have SA := Lib.hid H0
  have AL := Lib.hid HA
  clear H0 HA
  have dAl := dAl; have dSt := dSt
  go_enter Try.func9, Try.ntmps9
  go_upto_region 1 with fail
  refine opq (fun wx => Cs wx (w.heap.size) 2 (fg2 A B) ∧ Cs wx (w.heap.size + 1) 2 (fg2 n d) ∧ Cs wx (w.heap.size + 1 + 1) 2 (fg2 p q) ∧ w.heap.size + 1 + 1 < wx.heap.size ∧ Below w.heap.size w wx) ?_ ?_
  · exact ⟨cs_alloc _ (cs_alloc _ (cs_new rfl (arg2 A B)) (by simp)) (by simp <;> omega), cs_alloc _ (cs_new (by simp) (arg2 n d)) (by simp), cs_new (by simp) (arg2 p q), by simp, by (repeat (first | with_reducible exact b0 _ | (with_reducible refine bext ?_ _ _) | (with_reducible refine below_drewN ?_ _) | (with_reducible refine Below.drew ?_) | (with_reducible refine bal ?_ _)))⟩
  rintro w0 ⟨cG, cS, cT, zs, HBa⟩
  have hG : ∀ o, o < 2 → w0.cell? ⟨w.heap.size, o, none⟩ = some (.int .i64 (fg2 A B o)) := cG
  have hS : ∀ o, o < 2 → w0.cell? ⟨w.heap.size + 1, o, none⟩ = some (.int .i64 (fg2 n d o)) := cS
  have hT : ∀ o, o < 2 → w0.cell? ⟨w.heap.size + 1 + 1, o, none⟩ = some (.int .i64 (fg2 p q o)) := cT
  have i0 : fg2 A B 0 = A := rfl
  have i1 : fg2 A B 1 = B := rfl
  have i2 : fg2 n d 0 = n := rfl
  have i3 : fg2 n d 1 = d := rfl
  have i4 : fg2 p q 0 = p := rfl
  have i5 : fg2 p q 1 = q := rfl
  go_wp2_with fail
  with_reducible refine (SA.out _).mono ?_
  rintro e v0 ⟨rfl, hb⟩
  clear hG hS hT
  replace cG := cs_below cG hb (by omega)
  replace cS := cs_below cS hb (by omega)
  replace cT := cs_below cT hb (by omega)
  replace HBa := HBa.trans (hb.mono (by omega))
  replace zs := Nat.lt_of_lt_of_le zs hb.size
  clear hb
  have hG : ∀ o, o < 2 → v0.cell? ⟨w.heap.size, o, none⟩ = some (.int .i64 (fg2 A B o)) := cG
  have hS : ∀ o, o < 2 → v0.cell? ⟨w.heap.size + 1, o, none⟩ = some (.int .i64 (fg2 n d o)) := cS
  have hT : ∀ o, o < 2 → v0.cell? ⟨w.heap.size + 1 + 1, o, none⟩ = some (.int .i64 (fg2 p q o)) := cT
  go_wp2_with fail
  with_reducible refine (AL.out _).mono ?_
  rintro e z1 ⟨rfl, hb⟩
  go_wp2_with fail
  go_ret
  exact ⟨rfl, HBa.trans (hb.mono (by omega))⟩
set_option maxRecDepth 100000 in
set_option maxHeartbeats 16000000 in
theorem gnormal_out_b (A B n d p q : Int) (H0 : ∀ w : World, Calls Try.prog 29 #[.agg #[.int .i64 A, .int .i64 B]] w fun x w' => x = .returned (.int .i64 0) ∧ Below w.heap.size w w') (H1 : ∀ w : World, Calls Try.prog 36 #[.agg #[.int .i64 n, .int .i64 d], .agg #[.int .i64 p, .int .i64 q]] w fun x w' => x = .returned (.bool false) ∧ Below w.heap.size w w') (HA : ∀ w : World, Calls Try.prog 37 #[] w fun x w' => x = .returned (.bool true) ∧ Below w.heap.size w w') (w : World) :
    Calls Try.prog 9 #[.agg #[.int .i64 A, .int .i64 B], .agg #[.int .i64 n, .int .i64 d], .agg #[.int .i64 p, .int .i64 q]] w fun x w' => x = .returned (.bool true) ∧ Below w.heap.size w w' := by
  have SA := Lib.hid H0
  have SB := Lib.hid H1
  have AL := Lib.hid HA
  clear H0 HA H1
  have dAl := dAl; have dSt := dSt
  go_enter Try.func9, Try.ntmps9
  go_upto_region 1 with fail
  refine opq (fun wx => Cs wx (w.heap.size) 2 (fg2 A B) ∧ Cs wx (w.heap.size + 1) 2 (fg2 n d) ∧ Cs wx (w.heap.size + 1 + 1) 2 (fg2 p q) ∧ w.heap.size + 1 + 1 < wx.heap.size ∧ Below w.heap.size w wx) ?_ ?_
  · exact ⟨cs_alloc _ (cs_alloc _ (cs_new rfl (arg2 A B)) (by simp)) (by simp <;> omega), cs_alloc _ (cs_new (by simp) (arg2 n d)) (by simp), cs_new (by simp) (arg2 p q), by simp, by (repeat (first | with_reducible exact b0 _ | (with_reducible refine bext ?_ _ _) | (with_reducible refine below_drewN ?_ _) | (with_reducible refine Below.drew ?_) | (with_reducible refine bal ?_ _)))⟩
  rintro w0 ⟨cG, cS, cT, zs, HBa⟩
  have hG : ∀ o, o < 2 → w0.cell? ⟨w.heap.size, o, none⟩ = some (.int .i64 (fg2 A B o)) := cG
  have hS : ∀ o, o < 2 → w0.cell? ⟨w.heap.size + 1, o, none⟩ = some (.int .i64 (fg2 n d o)) := cS
  have hT : ∀ o, o < 2 → w0.cell? ⟨w.heap.size + 1 + 1, o, none⟩ = some (.int .i64 (fg2 p q o)) := cT
  have i0 : fg2 A B 0 = A := rfl
  have i1 : fg2 A B 1 = B := rfl
  have i2 : fg2 n d 0 = n := rfl
  have i3 : fg2 n d 1 = d := rfl
  have i4 : fg2 p q 0 = p := rfl
  have i5 : fg2 p q 1 = q := rfl
  go_wp2_with fail
  with_reducible refine (SA.out _).mono ?_
  rintro e v0 ⟨rfl, hb⟩
  clear hG hS hT
  replace cG := cs_below cG hb (by omega)
  replace cS := cs_below cS hb (by omega)
  replace cT := cs_below cT hb (by omega)
  replace HBa := HBa.trans (hb.mono (by omega))
  replace zs := Nat.lt_of_lt_of_le zs hb.size
  clear hb
  have hG : ∀ o, o < 2 → v0.cell? ⟨w.heap.size, o, none⟩ = some (.int .i64 (fg2 A B o)) := cG
  have hS : ∀ o, o < 2 → v0.cell? ⟨w.heap.size + 1, o, none⟩ = some (.int .i64 (fg2 n d o)) := cS
  have hT : ∀ o, o < 2 → v0.cell? ⟨w.heap.size + 1 + 1, o, none⟩ = some (.int .i64 (fg2 p q o)) := cT
  go_wp2_with fail
  with_reducible refine (SB.out _).mono ?_
  rintro e v1 ⟨rfl, hb⟩
  clear hG hS hT
  replace cG := cs_below cG hb (by omega)
  replace cS := cs_below cS hb (by omega)
  replace cT := cs_below cT hb (by omega)
  replace HBa := HBa.trans (hb.mono (by omega))
  replace zs := Nat.lt_of_lt_of_le zs hb.size
  clear hb
  have hG : ∀ o, o < 2 → v1.cell? ⟨w.heap.size, o, none⟩ = some (.int .i64 (fg2 A B o)) := cG
  have hS : ∀ o, o < 2 → v1.cell? ⟨w.heap.size + 1, o, none⟩ = some (.int .i64 (fg2 n d o)) := cS
  have hT : ∀ o, o < 2 → v1.cell? ⟨w.heap.size + 1 + 1, o, none⟩ = some (.int .i64 (fg2 p q o)) := cT
  go_wp2_with fail
  with_reducible refine (AL.out _).mono ?_
  rintro e z1 ⟨rfl, hb⟩
  go_wp2_with fail
  go_ret
  exact ⟨rfl, HBa.trans (hb.mono (by omega))⟩
set_option maxRecDepth 100000 in
set_option maxHeartbeats 16000000 in
theorem gnormal_walk (P N : Nat → Int) (A B n d p q a b : Int) (m1 : IntKind.i64.wrap (A * A) = a) (m2 : IntKind.i64.wrap (B * B) = b) (HC : ∀ w : World, Calls Try.prog 29 #[.agg #[.int .i64 A, .int .i64 B]] w fun x w' => x = .returned (.int .i64 0) ∧ Below w.heap.size w w') (HP : ∀ w : World, Calls Try.prog 36 #[.agg #[.int .i64 n, .int .i64 d], .agg #[.int .i64 p, .int .i64 q]] w fun x w' => x = .returned (.bool true) ∧ Below w.heap.size w w') (HA : ∀ w : World, Calls Try.prog 37 #[] w fun x w' => x = .returned (.bool true) ∧ Below w.heap.size w w')
    (H0 : ∀ w : World, Calls Try.prog 22 #[.agg #[.int .i64 A, .int .i64 B], .agg #[.int .i64 n, .int .i64 d], .agg #[.int .i64 p, .int .i64 q]] w fun x w' => x = .returned (.tuple #[.agg #[.int .i64 (P 0), .int .i64 (P 1), .int .i64 (P 2), .int .i64 (P 3), .int .i64 (P 4), .int .i64 (P 5)], .int .i64 0]) ∧ Below w.heap.size w w')
    (H1 : ∀ w : World, Calls Try.prog 32 #[.agg #[.int .i64 A, .int .i64 B], .agg #[.int .i64 (P 0), .int .i64 (P 1), .int .i64 (P 2), .int .i64 (P 3), .int .i64 (P 4), .int .i64 (P 5)]] w fun x w' => x = .returned (.tuple #[.agg #[.int .i64 (N 0), .int .i64 (N 1), .int .i64 (N 2), .int .i64 (N 3), .int .i64 (N 4), .int .i64 (N 5)], .int .i64 0]) ∧ Below w.heap.size w w')
    (H2 : ∀ w : World, Calls Try.prog 41 #[.agg #[.int .i64 (N 0), .int .i64 (N 1), .int .i64 (N 2), .int .i64 (N 3), .int .i64 (N 4), .int .i64 (N 5)], .agg #[.int .i64 (P 0), .int .i64 (P 1), .int .i64 (P 2), .int .i64 (P 3), .int .i64 (P 4), .int .i64 (P 5)]] w fun x w' => x = .returned (.tuple #[.agg #[.int .i64 1, .int .i64 1], .int .i64 0]) ∧ Below w.heap.size w w')
    (H3 : ∀ w : World, Calls Try.prog 42 #[.agg #[.int .i64 (N 0), .int .i64 (N 1)], .agg #[.int .i64 a, .int .i64 1]] w fun x w' => x = .returned (.tuple #[.agg #[.int .i64 (P 0), .int .i64 (P 1)], .int .i64 0]) ∧ Below w.heap.size w w')
    (H4 : ∀ w : World, Calls Try.prog 42 #[.agg #[.int .i64 (N 2), .int .i64 (N 3)], .agg #[.int .i64 a, .int .i64 1]] w fun x w' => x = .returned (.tuple #[.agg #[.int .i64 (P 2), .int .i64 (P 3)], .int .i64 0]) ∧ Below w.heap.size w w')
    (H5 : ∀ w : World, Calls Try.prog 42 #[.agg #[.int .i64 (N 4), .int .i64 (N 5)], .agg #[.int .i64 b, .int .i64 1]] w fun x w' => x = .returned (.tuple #[.agg #[.int .i64 (P 4), .int .i64 (P 5)], .int .i64 0]) ∧ Below w.heap.size w w')
    (w : World) :
    Calls Try.prog 9 #[.agg #[.int .i64 A, .int .i64 B], .agg #[.int .i64 n, .int .i64 d], .agg #[.int .i64 p, .int .i64 q]] w fun x w' => x = .returned (.bool true) ∧ Below w.heap.size w w' := by
  have SA := Lib.hid HC
  have SB := Lib.hid HP
  have AL := Lib.hid HA
  have K0 := Lib.hid H0
  have K1 := Lib.hid H1
  have K2 := Lib.hid H2
  have K3 := Lib.hid H3
  have K4 := Lib.hid H4
  have K5 := Lib.hid H5
  clear HC HP HA H0 H1 H2 H3 H4 H5
  have dAl := dAl; have dSt := dSt
  go_enter Try.func9, Try.ntmps9
  go_upto_region 1 with fail
  refine opq (fun wx => Cs wx (w.heap.size) 2 (fg2 A B) ∧ Cs wx (w.heap.size + 1) 2 (fg2 n d) ∧ Cs wx (w.heap.size + 1 + 1) 2 (fg2 p q) ∧ w.heap.size + 1 + 1 < wx.heap.size ∧ Below w.heap.size w wx) ?_ ?_
  · exact ⟨cs_alloc _ (cs_alloc _ (cs_new rfl (arg2 A B)) (by simp)) (by simp <;> omega), cs_alloc _ (cs_new (by simp) (arg2 n d)) (by simp), cs_new (by simp) (arg2 p q), by simp, by (repeat (first | with_reducible exact b0 _ | (with_reducible refine bext ?_ _ _) | (with_reducible refine below_drewN ?_ _) | (with_reducible refine Below.drew ?_) | (with_reducible refine bal ?_ _)))⟩
  rintro w0 ⟨cG, cS, cT, zs, HBa⟩
  have hG : ∀ o, o < 2 → w0.cell? ⟨w.heap.size, o, none⟩ = some (.int .i64 (fg2 A B o)) := cG
  have hS : ∀ o, o < 2 → w0.cell? ⟨w.heap.size + 1, o, none⟩ = some (.int .i64 (fg2 n d o)) := cS
  have hT : ∀ o, o < 2 → w0.cell? ⟨w.heap.size + 1 + 1, o, none⟩ = some (.int .i64 (fg2 p q o)) := cT
  have i0 : fg2 A B 0 = A := rfl
  have i1 : fg2 A B 1 = B := rfl
  have i2 : fg2 n d 0 = n := rfl
  have i3 : fg2 n d 1 = d := rfl
  have i4 : fg2 p q 0 = p := rfl
  have i5 : fg2 p q 1 = q := rfl
  go_wp2_with fail
  with_reducible refine (SA.out _).mono ?_
  rintro e v0 ⟨rfl, hb⟩
  clear hG hS hT
  replace cG := cs_below cG hb (by omega)
  replace cS := cs_below cS hb (by omega)
  replace cT := cs_below cT hb (by omega)
  replace HBa := HBa.trans (hb.mono (by omega))
  replace zs := Nat.lt_of_lt_of_le zs hb.size
  clear hb
  have hG : ∀ o, o < 2 → v0.cell? ⟨w.heap.size, o, none⟩ = some (.int .i64 (fg2 A B o)) := cG
  have hS : ∀ o, o < 2 → v0.cell? ⟨w.heap.size + 1, o, none⟩ = some (.int .i64 (fg2 n d o)) := cS
  have hT : ∀ o, o < 2 → v0.cell? ⟨w.heap.size + 1 + 1, o, none⟩ = some (.int .i64 (fg2 p q o)) := cT
  go_wp2_with fail
  with_reducible refine (SB.out _).mono ?_
  rintro e v1 ⟨rfl, hb⟩
  clear hG hS hT
  replace cG := cs_below cG hb (by omega)
  replace cS := cs_below cS hb (by omega)
  replace cT := cs_below cT hb (by omega)
  replace HBa := HBa.trans (hb.mono (by omega))
  replace zs := Nat.lt_of_lt_of_le zs hb.size
  clear hb
  have hG : ∀ o, o < 2 → v1.cell? ⟨w.heap.size, o, none⟩ = some (.int .i64 (fg2 A B o)) := cG
  have hS : ∀ o, o < 2 → v1.cell? ⟨w.heap.size + 1, o, none⟩ = some (.int .i64 (fg2 n d o)) := cS
  have hT : ∀ o, o < 2 → v1.cell? ⟨w.heap.size + 1 + 1, o, none⟩ = some (.int .i64 (fg2 p q o)) := cT
  go_upto_region 3 with fail
  clear SA SB hG hS hT
  go_step
  have hV : ∀ o, o < 2 → v1.cell? ⟨w.heap.size, o, none⟩ = some (.int .i64 ((fg2 A B) o)) := cG
  have e0 : (fg2 A B) 0 = A := rfl
  have e1 : (fg2 A B) 1 = B := rfl
  refine wpList_plain rfl (fun K hK => ?_)
  go_big_op
  refine hK _ _ ?_
  clear hK K
  clear hV e0 e1
  have hV : ∀ o, o < 2 → v1.cell? ⟨w.heap.size + 1, o, none⟩ = some (.int .i64 ((fg2 n d) o)) := cS
  have e0 : (fg2 n d) 0 = n := rfl
  have e1 : (fg2 n d) 1 = d := rfl
  refine wpList_plain rfl (fun K hK => ?_)
  go_big_op
  refine hK _ _ ?_
  clear hK K
  clear hV e0 e1
  have hV : ∀ o, o < 2 → v1.cell? ⟨w.heap.size + 1 + 1, o, none⟩ = some (.int .i64 ((fg2 p q) o)) := cT
  have e0 : (fg2 p q) 0 = p := rfl
  have e1 : (fg2 p q) 1 = q := rfl
  refine wpList_plain rfl (fun K hK => ?_)
  go_big_op
  refine hK _ _ ?_
  clear hK K
  clear hV e0 e1
  have AC := K0.out
  refine wpList_plain rfl (fun K hK => ?_)
  go_big_op
  with_reducible refine (AC _).mono ?_
  rintro e v11 ⟨rfl, hb⟩
  simp only []
  refine hK _ _ ?_
  clear hK K
  replace cG := cs_below cG hb (by omega)
  replace cS := cs_below cS hb (by omega)
  replace cT := cs_below cT hb (by omega)
  replace HBa := HBa.trans (hb.mono (by first | omega | exact HBa.size))
  replace zs := Nat.lt_of_lt_of_le zs hb.size
  clear hb
  clear AC
  go_upto_region 4 with fail
  refine opq (fun wx => Cs wx (w.heap.size) 2 (fg2 A B) ∧ Cs wx (w.heap.size + 1) 2 (fg2 n d) ∧ Cs wx (w.heap.size + 1 + 1) 2 (fg2 p q) ∧ Cs wx v11.heap.size 6 P ∧ v11.heap.size < wx.heap.size ∧ Below w.heap.size w wx) ?_ ?_
  · have zb := HBa.size
    exact ⟨by (repeat (first | with_reducible exact cG | with_reducible refine cs_drewN ?_ | with_reducible refine cs_drew ?_ | with_reducible refine cs_ext ?_ (by first | omega | (simp [ext_size, World.setCell] <;> omega)) _ _ | with_reducible refine cs_alloc _ ?_ (by first | omega | (simp [ext_size, World.setCell] <;> omega)) | with_reducible refine cs_up ?_ (by decide) | with_reducible refine cs_set _ ?_ (by first | omega | (simp <;> omega)))), by (repeat (first | with_reducible exact cS | with_reducible refine cs_drewN ?_ | with_reducible refine cs_drew ?_ | with_reducible refine cs_ext ?_ (by first | omega | (simp [ext_size, World.setCell] <;> omega)) _ _ | with_reducible refine cs_alloc _ ?_ (by first | omega | (simp [ext_size, World.setCell] <;> omega)) | with_reducible refine cs_up ?_ (by decide) | with_reducible refine cs_set _ ?_ (by first | omega | (simp <;> omega)))), by (repeat (first | with_reducible exact cT | with_reducible refine cs_drewN ?_ | with_reducible refine cs_drew ?_ | with_reducible refine cs_ext ?_ (by first | omega | (simp [ext_size, World.setCell] <;> omega)) _ _ | with_reducible refine cs_alloc _ ?_ (by first | omega | (simp [ext_size, World.setCell] <;> omega)) | with_reducible refine cs_up ?_ (by decide) | with_reducible refine cs_set _ ?_ (by first | omega | (simp <;> omega)))), by (intro o ho; rcases (show o = 0 ∨ o = 1 ∨ o = 2 ∨ o = 3 ∨ o = 4 ∨ o = 5 by omega) with rfl | rfl | rfl | rfl | rfl | rfl <;> simp [fg2, fg6, go_sem]), by simp [World.setCell], by (repeat (first | with_reducible exact HBa | (with_reducible refine bextm ?_ (by first | omega | (simp [ext_size, World.setCell] <;> omega)) _ _) | (with_reducible refine below_drewN ?_ _) | (with_reducible refine Below.drew ?_) | (with_reducible refine Below.alloc ?_ (by first | omega | (simp [ext_size, World.setCell] <;> omega)) _) | (with_reducible refine Below.setCell ?_ (by first | omega | (simp [ext_size, World.setCell] <;> omega)) _)))⟩
  have y14 := zs
  clear cG cS cT HBa zs
  generalize hq : v11.heap.size = q12 at *
  clear hq
  rintro u13 ⟨cG, cS, cT, cq12, zs, HBa⟩
  clear cS
  clear cT
  go_step
  have hV : ∀ o, o < 2 → u13.cell? ⟨w.heap.size, o, none⟩ = some (.int .i64 ((fg2 A B) o)) := cG
  have e0 : (fg2 A B) 0 = A := rfl
  have e1 : (fg2 A B) 1 = B := rfl
  refine wpList_plain rfl (fun K hK => ?_)
  go_big_op
  refine hK _ _ ?_
  clear hK K
  clear hV e0 e1
  have hV : ∀ o, o < 6 → u13.cell? ⟨q12, o, none⟩ = some (.int .i64 (P o)) := cq12
  refine wpList_plain rfl (fun K hK => ?_)
  go_big_op
  refine hK _ _ ?_
  clear hK K
  clear hV
  have AC := K1.out
  refine wpList_plain rfl (fun K hK => ?_)
  go_big_op
  with_reducible refine (AC _).mono ?_
  rintro e v15 ⟨rfl, hb⟩
  simp only []
  refine hK _ _ ?_
  clear hK K
  replace cG := cs_below cG hb (by omega)
  replace cq12 := cs_below cq12 hb (by omega)
  replace HBa := HBa.trans (hb.mono (by first | omega | exact HBa.size))
  replace zs := Nat.lt_of_lt_of_le zs hb.size
  clear hb
  clear AC
  go_upto_region 5 with fail
  refine opq (fun wx => Cs wx (w.heap.size) 2 (fg2 A B) ∧ Cs wx (q12) 6 P ∧ Cs wx v15.heap.size 6 N ∧ v15.heap.size < wx.heap.size ∧ Below w.heap.size w wx) ?_ ?_
  · have zb := HBa.size
    exact ⟨by (repeat (first | with_reducible exact cG | with_reducible refine cs_drewN ?_ | with_reducible refine cs_drew ?_ | with_reducible refine cs_ext ?_ (by first | omega | (simp [ext_size, World.setCell] <;> omega)) _ _ | with_reducible refine cs_alloc _ ?_ (by first | omega | (simp [ext_size, World.setCell] <;> omega)) | with_reducible refine cs_up ?_ (by decide) | with_reducible refine cs_set _ ?_ (by first | omega | (simp <;> omega)))), by (repeat (first | with_reducible exact cq12 | with_reducible refine cs_drewN ?_ | with_reducible refine cs_drew ?_ | with_reducible refine cs_ext ?_ (by first | omega | (simp [ext_size, World.setCell] <;> omega)) _ _ | with_reducible refine cs_alloc _ ?_ (by first | omega | (simp [ext_size, World.setCell] <;> omega)) | with_reducible refine cs_up ?_ (by decide) | with_reducible refine cs_set _ ?_ (by first | omega | (simp <;> omega)))), by (intro o ho; rcases (show o = 0 ∨ o = 1 ∨ o = 2 ∨ o = 3 ∨ o = 4 ∨ o = 5 by omega) with rfl | rfl | rfl | rfl | rfl | rfl <;> simp [fg2, fg6, go_sem]), by simp [World.setCell], by (repeat (first | with_reducible exact HBa | (with_reducible refine bextm ?_ (by first | omega | (simp [ext_size, World.setCell] <;> omega)) _ _) | (with_reducible refine below_drewN ?_ _) | (with_reducible refine Below.drew ?_) | (with_reducible refine Below.alloc ?_ (by first | omega | (simp [ext_size, World.setCell] <;> omega)) _) | (with_reducible refine Below.setCell ?_ (by first | omega | (simp [ext_size, World.setCell] <;> omega)) _)))⟩
  have y18 := zs
  clear cG cq12 HBa zs
  generalize hq : v15.heap.size = q16 at *
  clear hq
  rintro u17 ⟨cG, cq12, cq16, zs, HBa⟩
  go_upto_region 7 with fail
  go_step
  have hV : ∀ o, o < 6 → u17.cell? ⟨q16, o, none⟩ = some (.int .i64 (N o)) := cq16
  refine wpList_plain rfl (fun K hK => ?_)
  go_big_op
  refine hK _ _ ?_
  clear hK K
  clear hV
  have hV : ∀ o, o < 6 → u17.cell? ⟨q12, o, none⟩ = some (.int .i64 (P o)) := cq12
  refine wpList_plain rfl (fun K hK => ?_)
  go_big_op
  refine hK _ _ ?_
  clear hK K
  clear hV
  have AC := K2.out
  refine wpList_plain rfl (fun K hK => ?_)
  go_big_op
  with_reducible refine (AC _).mono ?_
  rintro e v19 ⟨rfl, hb⟩
  simp only []
  refine hK _ _ ?_
  clear hK K
  replace cG := cs_below cG hb (by omega)
  replace cq12 := cs_below cq12 hb (by omega)
  replace cq16 := cs_below cq16 hb (by omega)
  replace HBa := HBa.trans (hb.mono (by first | omega | exact HBa.size))
  replace zs := Nat.lt_of_lt_of_le zs hb.size
  clear hb
  clear AC
  go_upto_region 8 with fail
  refine opq (fun wx => Cs wx (w.heap.size) 2 (fg2 A B) ∧ Cs wx (q12) 6 P ∧ Cs wx (q16) 6 N ∧ Cs wx v19.heap.size 2 (fg2 1 1) ∧ v19.heap.size < wx.heap.size ∧ Below w.heap.size w wx) ?_ ?_
  · have zb := HBa.size
    exact ⟨by (repeat (first | with_reducible exact cG | with_reducible refine cs_drewN ?_ | with_reducible refine cs_drew ?_ | with_reducible refine cs_ext ?_ (by first | omega | (simp [ext_size, World.setCell] <;> omega)) _ _ | with_reducible refine cs_alloc _ ?_ (by first | omega | (simp [ext_size, World.setCell] <;> omega)) | with_reducible refine cs_up ?_ (by decide) | with_reducible refine cs_set _ ?_ (by first | omega | (simp <;> omega)))), by (repeat (first | with_reducible exact cq12 | with_reducible refine cs_drewN ?_ | with_reducible refine cs_drew ?_ | with_reducible refine cs_ext ?_ (by first | omega | (simp [ext_size, World.setCell] <;> omega)) _ _ | with_reducible refine cs_alloc _ ?_ (by first | omega | (simp [ext_size, World.setCell] <;> omega)) | with_reducible refine cs_up ?_ (by decide) | with_reducible refine cs_set _ ?_ (by first | omega | (simp <;> omega)))), by (repeat (first | with_reducible exact cq16 | with_reducible refine cs_drewN ?_ | with_reducible refine cs_drew ?_ | with_reducible refine cs_ext ?_ (by first | omega | (simp [ext_size, World.setCell] <;> omega)) _ _ | with_reducible refine cs_alloc _ ?_ (by first | omega | (simp [ext_size, World.setCell] <;> omega)) | with_reducible refine cs_up ?_ (by decide) | with_reducible refine cs_set _ ?_ (by first | omega | (simp <;> omega)))), by (intro o ho; rcases (show o = 0 ∨ o = 1 by omega) with rfl | rfl <;> simp [fg2, fg6, go_sem]), by simp [World.setCell], by (repeat (first | with_reducible exact HBa | (with_reducible refine bextm ?_ (by first | omega | (simp [ext_size, World.setCell] <;> omega)) _ _) | (with_reducible refine below_drewN ?_ _) | (with_reducible refine Below.drew ?_) | (with_reducible refine Below.alloc ?_ (by first | omega | (simp [ext_size, World.setCell] <;> omega)) _) | (with_reducible refine Below.setCell ?_ (by first | omega | (simp [ext_size, World.setCell] <;> omega)) _)))⟩
  have y22 := zs
  clear cG cq12 cq16 HBa zs
  generalize hq : v19.heap.size = q20 at *
  clear hq
  rintro u21 ⟨cG, cq12, cq16, cq20, zs, HBa⟩
  have MU8 := K3.out
  go_cut [13, 14] (fun s13 s14 wx => ∃ g : Nat, s13 = .pointer (some ⟨g, 0, none⟩) ∧ s14 = .int .i64 0 ∧ Cs wx g 2 (fg2 (P 0) (P 1)) ∧ u21.heap.size ≤ g ∧ g < wx.heap.size ∧ Below u21.heap.size u21 wx)
  case first =>
    have k0 := cq16 0 (by omega)
    have k1 := cq16 1 (by omega)
    have k2 : u21.cell? ⟨w.heap.size, 0, none⟩ = some (.int .i64 A) := cG 0 (by omega)
    have zN : q16 < u21.heap.size := by omega
    have zG : w.heap.size < u21.heap.size := by omega
    clear cG cq12 cq16 cq20 HBa
    have dAl := dAl; have dSt := dSt; have xC := ext_cell; have xF := ext_frozen; have xS := ext_set; have xN := ext_drewN; have xD := ext_drew; have xL := ext_lt; have xE := ext_ne; have xG := ext_nr; have xX := ext_ext; have xL1 := ext_lt1; have xL2 := ext_lt2; have xL3 := ext_lt3; have xM0 := ext_le0; have xM1 := ext_le1; have xM2 := ext_le2
    have dz1 := dzA; have dz2 := dzB
    go_region_held3 (fun w' => w'.cell? ⟨q16, 0, none⟩ = some (.int .i64 (N 0)) ∧ w'.cell? ⟨q16, 1, none⟩ = some (.int .i64 (N 1)) ∧ w'.cell? ⟨w.heap.size, 0, none⟩ = some (.int .i64 A)) (simp (maxDischargeDepth := 8) [go_sem, World.cell?_alloc_past, ltk2, ltk3, ltk4, ltk5, ltk6, ltk7, ltk8, ltk9, *])
      ((first | (go_at_call 43; with_reducible refine ((ref_OfG a) _).mono ?_; rintro e w' ⟨rfl, hb⟩; obtain ⟨l9, d9, rfl⟩ := toExt hb; clear hb) | (go_at_call 42; with_reducible refine (MU8 _).mono ?_; rintro e w' ⟨rfl, hb⟩; obtain ⟨l9, d9, rfl⟩ := toExt hb; clear hb)))
    all_goals (try go_wp2_with fail)
    all_goals go_meet
    all_goals exact ⟨_, rfl, rfl, by (intro o ho; rcases (show o = 0 ∨ o = 1 by omega) with rfl | rfl <;> (simp (maxDischargeDepth := 8) [fg2, go_sem, kp, *])), by (first | omega | (simp [ext_size, World.setCell] <;> omega)), by (first | omega | (simp [ext_size, World.setCell] <;> omega)), by (repeat (first | with_reducible exact Below.refl _ _ | with_reducible exact Below.refl _ _ | with_reducible refine bextm ?_ (by first | omega | (simp [ext_size, World.setCell] <;> omega)) _ _ | with_reducible refine below_drewN ?_ _ | with_reducible refine Below.drew ?_ | with_reducible refine Below.alloc ?_ (by first | omega | (simp [ext_size, World.setCell] <;> omega)) _ | with_reducible refine Below.setCell ?_ (by first | omega | (simp <;> omega)) _))⟩
  case rest =>
  obtain ⟨e8, rfl, rfl, ce8, ye8, zn, hb⟩ := hcut
  clear MU8
  replace cG := cs_below cG hb (by omega)
  replace cq12 := cs_below cq12 hb (by omega)
  replace cq16 := cs_below cq16 hb (by omega)
  replace cq20 := cs_below cq20 hb (by omega)
  have yf8 := Nat.lt_of_lt_of_le zs ye8
  replace HBa := HBa.trans (hb.mono (by first | omega | exact HBa.size))
  replace zs := zn
  clear zn hb ye8
  go_upto_region 9 with fail
  have MU9 := K4.out
  go_cut [15, 16] (fun s15 s16 wx => ∃ g : Nat, s15 = .pointer (some ⟨g, 0, none⟩) ∧ s16 = .int .i64 0 ∧ Cs wx g 2 (fg2 (P 2) (P 3)) ∧ wc.heap.size ≤ g ∧ g < wx.heap.size ∧ Below wc.heap.size wc wx)
  case first =>
    have k0 := cq16 2 (by omega)
    have k1 := cq16 3 (by omega)
    have k2 : wc.cell? ⟨w.heap.size, 0, none⟩ = some (.int .i64 A) := cG 0 (by omega)
    have zN : q16 < wc.heap.size := by omega
    have zG : w.heap.size < wc.heap.size := by omega
    clear cG cq12 cq16 cq20 ce8 HBa
    have dAl := dAl; have dSt := dSt; have xC := ext_cell; have xF := ext_frozen; have xS := ext_set; have xN := ext_drewN; have xD := ext_drew; have xL := ext_lt; have xE := ext_ne; have xG := ext_nr; have xX := ext_ext; have xL1 := ext_lt1; have xL2 := ext_lt2; have xL3 := ext_lt3; have xM0 := ext_le0; have xM1 := ext_le1; have xM2 := ext_le2
    have dz1 := dzA; have dz2 := dzB
    go_region_held3 (fun w' => w'.cell? ⟨q16, 2, none⟩ = some (.int .i64 (N 2)) ∧ w'.cell? ⟨q16, 3, none⟩ = some (.int .i64 (N 3)) ∧ w'.cell? ⟨w.heap.size, 0, none⟩ = some (.int .i64 A)) (simp (maxDischargeDepth := 8) [go_sem, World.cell?_alloc_past, ltk2, ltk3, ltk4, ltk5, ltk6, ltk7, ltk8, ltk9, *])
      ((first | (go_at_call 43; with_reducible refine ((ref_OfG a) _).mono ?_; rintro e w' ⟨rfl, hb⟩; obtain ⟨l9, d9, rfl⟩ := toExt hb; clear hb) | (go_at_call 42; with_reducible refine (MU9 _).mono ?_; rintro e w' ⟨rfl, hb⟩; obtain ⟨l9, d9, rfl⟩ := toExt hb; clear hb)))
    all_goals (try go_wp2_with fail)
    all_goals go_meet
    all_goals exact ⟨_, rfl, rfl, by (intro o ho; rcases (show o = 0 ∨ o = 1 by omega) with rfl | rfl <;> (simp (maxDischargeDepth := 8) [fg2, go_sem, kp, *])), by (first | omega | (simp [ext_size, World.setCell] <;> omega)), by (first | omega | (simp [ext_size, World.setCell] <;> omega)), by (repeat (first | with_reducible exact Below.refl _ _ | with_reducible exact Below.refl _ _ | with_reducible refine bextm ?_ (by first | omega | (simp [ext_size, World.setCell] <;> omega)) _ _ | with_reducible refine below_drewN ?_ _ | with_reducible refine Below.drew ?_ | with_reducible refine Below.alloc ?_ (by first | omega | (simp [ext_size, World.setCell] <;> omega)) _ | with_reducible refine Below.setCell ?_ (by first | omega | (simp <;> omega)) _))⟩
  case rest =>
  obtain ⟨e9, rfl, rfl, ce9, ye9, zn, hb⟩ := hcut
  clear MU9
  replace cG := cs_below cG hb (by omega)
  replace cq12 := cs_below cq12 hb (by omega)
  replace cq16 := cs_below cq16 hb (by omega)
  replace cq20 := cs_below cq20 hb (by omega)
  replace ce8 := cs_below ce8 hb (by omega)
  have yf9 := Nat.lt_of_lt_of_le zs ye9
  replace HBa := HBa.trans (hb.mono (by first | omega | exact HBa.size))
  replace zs := zn
  clear zn hb ye9
  go_upto_region 10 with fail
  have MU10 := K5.out
  go_cut [17, 18] (fun s17 s18 wx => ∃ g : Nat, s17 = .pointer (some ⟨g, 0, none⟩) ∧ s18 = .int .i64 0 ∧ Cs wx g 2 (fg2 (P 4) (P 5)) ∧ wc.heap.size ≤ g ∧ g < wx.heap.size ∧ Below wc.heap.size wc wx)
  case first =>
    have k0 := cq16 4 (by omega)
    have k1 := cq16 5 (by omega)
    have k2 : wc.cell? ⟨w.heap.size, 1, none⟩ = some (.int .i64 B) := cG 1 (by omega)
    have zN : q16 < wc.heap.size := by omega
    have zG : w.heap.size < wc.heap.size := by omega
    clear cG cq12 cq16 cq20 ce8 ce9 HBa
    have dAl := dAl; have dSt := dSt; have xC := ext_cell; have xF := ext_frozen; have xS := ext_set; have xN := ext_drewN; have xD := ext_drew; have xL := ext_lt; have xE := ext_ne; have xG := ext_nr; have xX := ext_ext; have xL1 := ext_lt1; have xL2 := ext_lt2; have xL3 := ext_lt3; have xM0 := ext_le0; have xM1 := ext_le1; have xM2 := ext_le2
    have dz1 := dzA; have dz2 := dzB
    go_region_held3 (fun w' => w'.cell? ⟨q16, 4, none⟩ = some (.int .i64 (N 4)) ∧ w'.cell? ⟨q16, 5, none⟩ = some (.int .i64 (N 5)) ∧ w'.cell? ⟨w.heap.size, 1, none⟩ = some (.int .i64 B)) (simp (maxDischargeDepth := 8) [go_sem, World.cell?_alloc_past, ltk2, ltk3, ltk4, ltk5, ltk6, ltk7, ltk8, ltk9, *])
      ((first | (go_at_call 43; with_reducible refine ((ref_OfG b) _).mono ?_; rintro e w' ⟨rfl, hb⟩; obtain ⟨l9, d9, rfl⟩ := toExt hb; clear hb) | (go_at_call 42; with_reducible refine (MU10 _).mono ?_; rintro e w' ⟨rfl, hb⟩; obtain ⟨l9, d9, rfl⟩ := toExt hb; clear hb)))
    all_goals (try go_wp2_with fail)
    all_goals go_meet
    all_goals exact ⟨_, rfl, rfl, by (intro o ho; rcases (show o = 0 ∨ o = 1 by omega) with rfl | rfl <;> (simp (maxDischargeDepth := 8) [fg2, go_sem, kp, *])), by (first | omega | (simp [ext_size, World.setCell] <;> omega)), by (first | omega | (simp [ext_size, World.setCell] <;> omega)), by (repeat (first | with_reducible exact Below.refl _ _ | with_reducible exact Below.refl _ _ | with_reducible refine bextm ?_ (by first | omega | (simp [ext_size, World.setCell] <;> omega)) _ _ | with_reducible refine below_drewN ?_ _ | with_reducible refine Below.drew ?_ | with_reducible refine Below.alloc ?_ (by first | omega | (simp [ext_size, World.setCell] <;> omega)) _ | with_reducible refine Below.setCell ?_ (by first | omega | (simp <;> omega)) _))⟩
  case rest =>
  obtain ⟨e10, rfl, rfl, ce10, ye10, zn, hb⟩ := hcut
  clear MU10
  replace cG := cs_below cG hb (by omega)
  replace cq12 := cs_below cq12 hb (by omega)
  replace cq16 := cs_below cq16 hb (by omega)
  replace cq20 := cs_below cq20 hb (by omega)
  replace ce8 := cs_below ce8 hb (by omega)
  replace ce9 := cs_below ce9 hb (by omega)
  have yf10 := Nat.lt_of_lt_of_le zs ye10
  replace HBa := HBa.trans (hb.mono (by first | omega | exact HBa.size))
  replace zs := zn
  clear zn hb ye10
  go_upto_region 11 with fail
  refine wp_region_held_drew (S := (fun w' => Below wc.heap.size wc w')) (by kernel_rfl) ?_ (fun hHeld => ?_)
  · exact Below.drew (Below.refl _ _)
  refine wpAnyH_take (i := 0) (oi := _) (v := ?_) rfl (by kernel_rfl) (by kernel_rfl) (by kernel_rfl) (fun _ _ _ h => h) (Or.inl ⟨by rfl, ?_⟩) (by assumption) ?_
  rotate_left
  · (intro w hSw; (try dsimp only at hSw); go_simp; (try with_reducible rfl))
  try simp only [Act.put, List.setIfInBounds_toArray, List.set_cons_zero, List.set_cons_succ, fg6, fg2]
  refine wpAnyH_take (i := 1) (oi := _) (v := ?_) rfl (by kernel_rfl) (by kernel_rfl) (by kernel_rfl) (fun _ _ _ h => h) (Or.inl ⟨by rfl, ?_⟩) (by assumption) ?_
  rotate_left
  · (intro w hSw; (try dsimp only at hSw); go_simp; (try with_reducible rfl))
  try simp only [Act.put, List.setIfInBounds_toArray, List.set_cons_zero, List.set_cons_succ, fg6, fg2]
  refine wpAnyH_take (i := 2) (oi := _) (v := ?_) rfl (by kernel_rfl) (by kernel_rfl) (by kernel_rfl) (fun _ _ _ h => h) (Or.inl ⟨by rfl, ?_⟩) (by assumption) ?_
  rotate_left
  · (intro w hSw; (try dsimp only at hSw); go_simp; (try with_reducible rfl))
  try simp only [Act.put, List.setIfInBounds_toArray, List.set_cons_zero, List.set_cons_succ, fg6, fg2]
  refine take2 3 (.tmp 11) q20 (fg2 1 1) rfl rfl (by kernel_rfl) (by kernel_rfl) (by kernel_rfl) (fun _ _ _ h => h) (by rfl) rfl (fun w k => cs_below cq20 k (by omega)) (by assumption) ?_
  try simp only [Act.put, List.setIfInBounds_toArray, List.set_cons_zero, List.set_cons_succ, fg6, fg2]
  refine wpAnyH_ready (rs := [4]) (by kernel_rfl) (by simp) ?_
  refine AllReadyH.cons (o := _) rfl (fun K hK => ?_) AllReadyH.nil
  go_simp
  with_reducible refine ((law_of3 1 1) _).mono ?_
  rintro e v23 ⟨rfl, hb⟩
  replace hHeld := Below.trans hHeld (Below.mono hb (Below.size hHeld))
  clear hb
  (try go_wp2_with fail)
  refine hK.out _ _ ?_ (fun hHeld2 => ?_)
  · (repeat (first | with_reducible exact hHeld | with_reducible exact Below.refl _ _ | with_reducible refine bextm ?_ (by first | omega | (simp [ext_size, World.setCell] <;> omega)) _ _ | with_reducible refine below_drewN ?_ _ | with_reducible refine Below.drew ?_ | with_reducible refine Below.alloc ?_ (by first | omega | (simp [ext_size, World.setCell] <;> omega)) _ | with_reducible refine Below.setCell ?_ (by first | omega | (simp <;> omega)) _))
  clear hK K hHeld
  have hHeld := hHeld2
  clear hHeld2
  try simp only [Act.put, List.setIfInBounds_toArray, List.set_cons_zero, List.set_cons_succ, fg6, fg2]
  refine wpAnyH_take (i := 5) (oi := _) (v := ?_) rfl (by kernel_rfl) (by kernel_rfl) (by kernel_rfl) (fun _ _ _ h => h) (Or.inl ⟨by rfl, ?_⟩) (by assumption) ?_
  rotate_left
  · (intro w hSw; (try dsimp only at hSw); go_simp; (try with_reducible rfl))
  try simp only [Act.put, List.setIfInBounds_toArray, List.set_cons_zero, List.set_cons_succ, fg6, fg2]
  refine wpAnyH_ready (rs := [6]) (by kernel_rfl) (by simp) ?_
  refine AllReadyH.cons (o := _) rfl (fun K hK => ?_) AllReadyH.nil
  go_simp
  refine hK.out _ _ ?_ (fun hHeld2 => ?_)
  · (repeat (first | with_reducible exact hHeld | with_reducible exact Below.refl _ _ | with_reducible refine bextm ?_ (by first | omega | (simp [ext_size, World.setCell] <;> omega)) _ _ | with_reducible refine below_drewN ?_ _ | with_reducible refine Below.drew ?_ | with_reducible refine Below.alloc ?_ (by first | omega | (simp [ext_size, World.setCell] <;> omega)) _ | with_reducible refine Below.setCell ?_ (by first | omega | (simp <;> omega)) _))
  clear hK K hHeld
  have hHeld := hHeld2
  clear hHeld2
  try simp only [Act.put, List.setIfInBounds_toArray, List.set_cons_zero, List.set_cons_succ, fg6, fg2]
  refine wpAnyH_take (i := 7) (oi := _) (v := ?_) rfl (by kernel_rfl) (by kernel_rfl) (by kernel_rfl) (fun _ _ _ h => h) (Or.inl ⟨by rfl, ?_⟩) (by assumption) ?_
  rotate_left
  · (intro w hSw; (try dsimp only at hSw); go_simp; (try with_reducible rfl))
  try simp only [Act.put, List.setIfInBounds_toArray, List.set_cons_zero, List.set_cons_succ, fg6, fg2]
  refine wpAnyH_take (i := 8) (oi := _) (v := ?_) rfl (by kernel_rfl) (by kernel_rfl) (by kernel_rfl) (fun _ _ _ h => h) (Or.inl ⟨by rfl, ?_⟩) (by assumption) ?_
  rotate_left
  · (intro w hSw; (try dsimp only at hSw); go_simp; (try with_reducible rfl))
  try simp only [Act.put, List.setIfInBounds_toArray, List.set_cons_zero, List.set_cons_succ, fg6, fg2]
  refine wpAnyH_take (i := 9) (oi := _) (v := ?_) rfl (by kernel_rfl) (by kernel_rfl) (by kernel_rfl) (fun _ _ _ h => h) (Or.inl ⟨by rfl, ?_⟩) (by assumption) ?_
  rotate_left
  · (intro w hSw; (try dsimp only at hSw); go_simp; (try with_reducible rfl))
  try simp only [Act.put, List.setIfInBounds_toArray, List.set_cons_zero, List.set_cons_succ, fg6, fg2]
  refine wpAnyH_ready (rs := [10]) (by kernel_rfl) (by simp) ?_
  refine AllReadyH.cons (o := _) rfl (fun K hK => ?_) AllReadyH.nil
  go_simp
  refine hK.out _ _ ?_ (fun hHeld2 => ?_)
  · (repeat (first | with_reducible exact hHeld | with_reducible exact Below.refl _ _ | with_reducible refine bextm ?_ (by first | omega | (simp [ext_size, World.setCell] <;> omega)) _ _ | with_reducible refine below_drewN ?_ _ | with_reducible refine Below.drew ?_ | with_reducible refine Below.alloc ?_ (by first | omega | (simp [ext_size, World.setCell] <;> omega)) _ | with_reducible refine Below.setCell ?_ (by first | omega | (simp <;> omega)) _))
  clear hK K hHeld
  have hHeld := hHeld2
  clear hHeld2
  try simp only [Act.put, List.setIfInBounds_toArray, List.set_cons_zero, List.set_cons_succ, fg6, fg2]
  refine wpAnyH_take (i := 11) (oi := _) (v := ?_) rfl (by kernel_rfl) (by kernel_rfl) (by kernel_rfl) (fun _ _ _ h => h) (Or.inl ⟨by rfl, ?_⟩) (by assumption) ?_
  rotate_left
  · (intro w hSw; (try dsimp only at hSw); go_simp; (try with_reducible rfl))
  try simp only [Act.put, List.setIfInBounds_toArray, List.set_cons_zero, List.set_cons_succ, fg6, fg2]
  refine wpAnyH_take (i := 12) (oi := _) (v := ?_) rfl (by kernel_rfl) (by kernel_rfl) (by kernel_rfl) (fun _ _ _ h => h) (Or.inl ⟨by rfl, ?_⟩) (by assumption) ?_
  rotate_left
  · (intro w hSw; (try dsimp only at hSw); go_simp; (try with_reducible rfl))
  try simp only [Act.put, List.setIfInBounds_toArray, List.set_cons_zero, List.set_cons_succ, fg6, fg2]
  refine wpAnyH_take (i := 13) (oi := _) (v := ?_) rfl (by kernel_rfl) (by kernel_rfl) (by kernel_rfl) (fun _ _ _ h => h) (Or.inl ⟨by rfl, ?_⟩) (by assumption) ?_
  rotate_left
  · (intro w hSw; (try dsimp only at hSw); go_simp; (try with_reducible rfl))
  try simp only [Act.put, List.setIfInBounds_toArray, List.set_cons_zero, List.set_cons_succ, fg6, fg2]
  refine wpAnyH_ready (rs := [14]) (by kernel_rfl) (by simp) ?_
  refine AllReadyH.cons (o := _) rfl (fun K hK => ?_) AllReadyH.nil
  go_simp
  refine hK.out _ _ ?_ (fun hHeld2 => ?_)
  · (repeat (first | with_reducible exact hHeld | with_reducible exact Below.refl _ _ | with_reducible refine bextm ?_ (by first | omega | (simp [ext_size, World.setCell] <;> omega)) _ _ | with_reducible refine below_drewN ?_ _ | with_reducible refine Below.drew ?_ | with_reducible refine Below.alloc ?_ (by first | omega | (simp [ext_size, World.setCell] <;> omega)) _ | with_reducible refine Below.setCell ?_ (by first | omega | (simp <;> omega)) _))
  clear hK K hHeld
  have hHeld := hHeld2
  clear hHeld2
  try simp only [Act.put, List.setIfInBounds_toArray, List.set_cons_zero, List.set_cons_succ, fg6, fg2]
  refine wpAnyH_take (i := 15) (oi := _) (v := ?_) rfl (by kernel_rfl) (by kernel_rfl) (by kernel_rfl) (fun _ _ _ h => h) (Or.inl ⟨by rfl, ?_⟩) (by assumption) ?_
  rotate_left
  · (intro w hSw; (try dsimp only at hSw); go_simp; (try with_reducible rfl))
  try simp only [Act.put, List.setIfInBounds_toArray, List.set_cons_zero, List.set_cons_succ, fg6, fg2]
  refine wpAnyH_take (i := 16) (oi := _) (v := ?_) rfl (by kernel_rfl) (by kernel_rfl) (by kernel_rfl) (fun _ _ _ h => h) (Or.inl ⟨by rfl, ?_⟩) (by assumption) ?_
  rotate_left
  · (intro w hSw; (try dsimp only at hSw); go_simp; (try with_reducible rfl))
  try simp only [Act.put, List.setIfInBounds_toArray, List.set_cons_zero, List.set_cons_succ, fg6, fg2]
  refine wpAnyH_take (i := 17) (oi := _) (v := ?_) rfl (by kernel_rfl) (by kernel_rfl) (by kernel_rfl) (fun _ _ _ h => h) (Or.inl ⟨by rfl, ?_⟩) (by assumption) ?_
  rotate_left
  · (intro w hSw; (try dsimp only at hSw); go_simp; (try with_reducible rfl))
  try simp only [Act.put, List.setIfInBounds_toArray, List.set_cons_zero, List.set_cons_succ, fg6, fg2]
  refine wpAnyH_ready (rs := [18]) (by kernel_rfl) (by simp) ?_
  refine AllReadyH.cons (o := _) rfl (fun K hK => ?_) AllReadyH.nil
  go_simp
  refine hK.out _ _ ?_ (fun hHeld2 => ?_)
  · (repeat (first | with_reducible exact hHeld | with_reducible exact Below.refl _ _ | with_reducible refine bextm ?_ (by first | omega | (simp [ext_size, World.setCell] <;> omega)) _ _ | with_reducible refine below_drewN ?_ _ | with_reducible refine Below.drew ?_ | with_reducible refine Below.alloc ?_ (by first | omega | (simp [ext_size, World.setCell] <;> omega)) _ | with_reducible refine Below.setCell ?_ (by first | omega | (simp <;> omega)) _))
  clear hK K hHeld
  have hHeld := hHeld2
  clear hHeld2
  try simp only [Act.put, List.setIfInBounds_toArray, List.set_cons_zero, List.set_cons_succ, fg6, fg2]
  refine wpAnyH_take (i := 19) (oi := _) (v := ?_) rfl (by kernel_rfl) (by kernel_rfl) (by kernel_rfl) (fun _ _ _ h => h) (Or.inl ⟨by rfl, ?_⟩) (by assumption) ?_
  rotate_left
  · (intro w hSw; (try dsimp only at hSw); go_simp; (try with_reducible rfl))
  try simp only [Act.put, List.setIfInBounds_toArray, List.set_cons_zero, List.set_cons_succ, fg6, fg2]
  refine take6v 20 (.tmp 7) q12 P rfl rfl (by kernel_rfl) (by kernel_rfl) (by kernel_rfl) (fun _ _ _ h => h) (by rfl) rfl (fun w k => cs_below cq12 k (by omega)) (by assumption) ?_
  try simp only [Act.put, List.setIfInBounds_toArray, List.set_cons_zero, List.set_cons_succ, fg6, fg2]
  refine take2 21 (.tmp 13) e8 (fg2 (P 0) (P 1)) rfl rfl (by kernel_rfl) (by kernel_rfl) (by kernel_rfl) (fun _ _ _ h => h) (by rfl) rfl (fun w k => cs_below ce8 k (by omega)) (by assumption) ?_
  try simp only [Act.put, List.setIfInBounds_toArray, List.set_cons_zero, List.set_cons_succ, fg6, fg2]
  refine take2 22 (.tmp 15) e9 (fg2 (P 2) (P 3)) rfl rfl (by kernel_rfl) (by kernel_rfl) (by kernel_rfl) (fun _ _ _ h => h) (by rfl) rfl (fun w k => cs_below ce9 k (by omega)) (by assumption) ?_
  try simp only [Act.put, List.setIfInBounds_toArray, List.set_cons_zero, List.set_cons_succ, fg6, fg2]
  refine take2 23 (.tmp 17) e10 (fg2 (P 4) (P 5)) rfl rfl (by kernel_rfl) (by kernel_rfl) (by kernel_rfl) (fun _ _ _ h => h) (by rfl) rfl (fun w k => cs_below ce10 k (by omega)) (by assumption) ?_
  try simp only [Act.put, List.setIfInBounds_toArray, List.set_cons_zero, List.set_cons_succ, fg6, fg2]
  refine wpAnyH_take (i := 24) (oi := _) (v := ?_) rfl (by kernel_rfl) (by kernel_rfl) (by kernel_rfl) (fun _ _ _ h => h) (Or.inl ⟨by rfl, ?_⟩) (by assumption) ?_
  rotate_left
  · (intro w hSw; (try dsimp only at hSw); go_simp; (try with_reducible rfl))
  try simp only [Act.put, List.setIfInBounds_toArray, List.set_cons_zero, List.set_cons_succ, fg6, fg2]
  refine wpAnyH_take (i := 25) (oi := _) (v := ?_) rfl (by kernel_rfl) (by kernel_rfl) (by kernel_rfl) (fun _ _ _ h => h) (Or.inl ⟨by rfl, ?_⟩) (by assumption) ?_
  rotate_left
  · (intro w hSw; (try dsimp only at hSw); go_simp; (try with_reducible rfl))
  try simp only [Act.put, List.setIfInBounds_toArray, List.set_cons_zero, List.set_cons_succ, fg6, fg2]
  refine wpAnyH_ready (rs := [26]) (by kernel_rfl) (by simp) ?_
  refine AllReadyH.cons (o := _) rfl (fun K hK => ?_) AllReadyH.nil
  go_simp
  refine hK.out _ _ ?_ (fun hHeld2 => ?_)
  · (repeat (first | with_reducible exact hHeld | with_reducible exact Below.refl _ _ | with_reducible refine bextm ?_ (by first | omega | (simp [ext_size, World.setCell] <;> omega)) _ _ | with_reducible refine below_drewN ?_ _ | with_reducible refine Below.drew ?_ | with_reducible refine Below.alloc ?_ (by first | omega | (simp [ext_size, World.setCell] <;> omega)) _ | with_reducible refine Below.setCell ?_ (by first | omega | (simp <;> omega)) _))
  clear hK K hHeld
  have hHeld := hHeld2
  clear hHeld2
  try simp only [Act.put, List.setIfInBounds_toArray, List.set_cons_zero, List.set_cons_succ, fg6, fg2]
  refine wpAnyH_take (i := 27) (oi := _) (v := ?_) rfl (by kernel_rfl) (by kernel_rfl) (by kernel_rfl) (fun _ _ _ h => h) (Or.inl ⟨by rfl, ?_⟩) (by assumption) ?_
  rotate_left
  · (intro w hSw; (try dsimp only at hSw); go_simp; (try with_reducible rfl))
  try simp only [Act.put, List.setIfInBounds_toArray, List.set_cons_zero, List.set_cons_succ, fg6, fg2]
  refine wpAnyH_ready (rs := [28]) (by kernel_rfl) (by simp) ?_
  refine AllReadyH.cons (o := _) rfl (fun K hK => ?_) AllReadyH.nil
  go_simp
  with_reducible refine (AL.out _).mono ?_
  rintro e v24 ⟨rfl, hb⟩
  replace hHeld := Below.trans hHeld (Below.mono hb (Below.size hHeld))
  clear hb
  (try go_wp2_with fail)
  refine hK.out _ _ ?_ (fun hHeld2 => ?_)
  · (repeat (first | with_reducible exact hHeld | with_reducible exact Below.refl _ _ | with_reducible refine bextm ?_ (by first | omega | (simp [ext_size, World.setCell] <;> omega)) _ _ | with_reducible refine below_drewN ?_ _ | with_reducible refine Below.drew ?_ | with_reducible refine Below.alloc ?_ (by first | omega | (simp [ext_size, World.setCell] <;> omega)) _ | with_reducible refine Below.setCell ?_ (by first | omega | (simp <;> omega)) _))
  clear hK K hHeld
  have hHeld := hHeld2
  clear hHeld2
  try simp only [Act.put, List.setIfInBounds_toArray, List.set_cons_zero, List.set_cons_succ, fg6, fg2]
  refine wpAnyH_ready (rs := [29]) (by kernel_rfl) (by simp) ?_
  refine AllReadyH.cons (o := _) rfl (fun K hK => ?_) AllReadyH.nil
  go_simp
  refine hK.out _ _ ?_ (fun hHeld2 => ?_)
  · (repeat (first | with_reducible exact hHeld | with_reducible exact Below.refl _ _ | with_reducible refine bextm ?_ (by first | omega | (simp [ext_size, World.setCell] <;> omega)) _ _ | with_reducible refine below_drewN ?_ _ | with_reducible refine Below.drew ?_ | with_reducible refine Below.alloc ?_ (by first | omega | (simp [ext_size, World.setCell] <;> omega)) _ | with_reducible refine Below.setCell ?_ (by first | omega | (simp <;> omega)) _))
  clear hK K hHeld
  have hHeld := hHeld2
  clear hHeld2
  try simp only [Act.put, List.setIfInBounds_toArray, List.set_cons_zero, List.set_cons_succ, fg6, fg2]
  refine wpAnyH_ready (rs := [30]) (by kernel_rfl) (by simp) ?_
  refine AllReadyH.cons (o := _) rfl (fun K hK => ?_) AllReadyH.nil
  go_simp
  refine hK.out _ _ ?_ (fun hHeld2 => ?_)
  · (repeat (first | with_reducible exact hHeld | with_reducible exact Below.refl _ _ | with_reducible refine bextm ?_ (by first | omega | (simp [ext_size, World.setCell] <;> omega)) _ _ | with_reducible refine below_drewN ?_ _ | with_reducible refine Below.drew ?_ | with_reducible refine Below.alloc ?_ (by first | omega | (simp [ext_size, World.setCell] <;> omega)) _ | with_reducible refine Below.setCell ?_ (by first | omega | (simp <;> omega)) _))
  clear hK K hHeld
  have hHeld := hHeld2
  clear hHeld2
  try simp only [Act.put, List.setIfInBounds_toArray, List.set_cons_zero, List.set_cons_succ, fg6, fg2]
  refine wpAnyH_done (by kernel_rfl) ?_ _
  go_wp2_with fail
  go_ret
  exact ⟨rfl, HBa.trans (Below.mono hHeld (by first | omega | exact HBa.size))⟩
end Go.Proofs.Ytdolfdmgdknboaa
