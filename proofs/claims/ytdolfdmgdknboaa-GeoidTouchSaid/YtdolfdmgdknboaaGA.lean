/-
  Package geoid: points, relative vectors, normals, sides: where all is well.  Package geoid: the check of a globe and points, where all is well.  Package geoid: places, where all is well.
-/
import Derived.Lib.Hide
import Derived.Test.YtdolfdmgdknboaaGca
import Derived.Deep.RegionHeld3
import Derived.Laws.BitsLemmas
import Derived.Test.YtdolfdmgdknboaaMA
import Derived.Deep.LoopGhost
import Derived.Deep.DeepCutAuto
import Derived.Deep.QuietTactic
import Derived.BigQuiet
namespace Go.Proofs.Ytdolfdmgdknboaa
open Go.RowKit
set_option linter.unusedVariables false
set_option linter.unusedSimpArgs false

set_option maxRecDepth 100000 in
set_option maxHeartbeats 3200000 in
theorem geo_shrink (P R : Nat → Int) (a b e : Int) (AP : ∀ w : World, Calls Try.prog 10 #[.agg #[.int .i64 1, .int .i64 a, .int .i64 0, .int .i64 1, .int .i64 0, .int .i64 1, .int .i64 0, .int .i64 1, .int .i64 1, .int .i64 a, .int .i64 0, .int .i64 1, .int .i64 0, .int .i64 1, .int .i64 0, .int .i64 1, .int .i64 1, .int .i64 b], .agg #[.int .i64 (P 0), .int .i64 (P 1), .int .i64 (P 2), .int .i64 (P 3), .int .i64 (P 4), .int .i64 (P 5)]] w fun x w' => x = .returned (.tuple #[.agg #[.int .i64 (R 0), .int .i64 (R 1), .int .i64 (R 2), .int .i64 (R 3), .int .i64 (R 4), .int .i64 (R 5)], .int .i64 e]) ∧ Below w.heap.size w w') (w : World) :
    Calls Try.prog 84 #[.agg #[.int .i64 (P 0), .int .i64 (P 1), .int .i64 (P 2), .int .i64 (P 3), .int .i64 (P 4), .int .i64 (P 5)], .int .i64 a, .int .i64 b] w fun x w' => x = .returned (.tuple #[.agg #[.int .i64 (R 0), .int .i64 (R 1), .int .i64 (R 2), .int .i64 (R 3), .int .i64 (R 4), .int .i64 (R 5)], .int .i64 e]) ∧ Below w.heap.size w w' := by
  have W0 := fun w => geo_whole 0 w
  have P1 := fun w => geo_part a w
  have P2 := fun w => geo_part b w
  have dAl := dAl; have dSt := dSt
  go_enter Try.func84, Try.ntmps84
  go_upto_region 1 with fail
  refine opq (fun wx => Cs wx (w.heap.size) 6 P ∧ Cs wx (w.heap.size + 1) 6 (fun _ => 0) ∧ Fs wx (w.heap.size + 1) 6 ∧ w.heap.size + 1 < wx.heap.size ∧ Below w.heap.size w wx) ?_ ?_
  · exact ⟨cs_alloc _ (cs_new (by simp) (arrV P)) (by simp <;> omega), cs_new (by simp) (arr06), fs_new (by simp), by simp, by (repeat (first | with_reducible exact b0 _ | (with_reducible refine bext ?_ _ _) | (with_reducible refine below_drewN ?_ _) | (with_reducible refine Below.drew ?_) | (with_reducible refine bal ?_ _)))⟩
  rintro w0 ⟨c0, c1, f1, zs, HBa⟩
  have hc0 : ∀ o, o < 6 → w0.cell? ⟨w.heap.size, o, none⟩ = some (.int .i64 (P o)) := c0
  have hc1 : ∀ o, o < 6 → w0.cell? ⟨w.heap.size + 1, o, none⟩ = some (.int .i64 ((fun _ => 0) o)) := c1
  have hf1 : ∀ o, o < 6 → w0.frozen? ⟨w.heap.size + 1, o, none⟩ = false := f1
  go_wp2_with fail
  with_reducible refine (W0 _).mono ?_
  rintro e v1 ⟨rfl, hb⟩
  clear hc0 hc1 hf1
  replace c0 := cs_below c0 hb (by omega)
  replace c1 := cs_below c1 hb (by omega)
  replace f1 := fs_below f1 hb (by omega)
  replace HBa := HBa.trans (hb.mono (by first | omega | exact HBa.size))
  replace zs := Nat.lt_of_lt_of_le zs hb.size
  clear hb
  have hc0 : ∀ o, o < 6 → v1.cell? ⟨w.heap.size, o, none⟩ = some (.int .i64 (P o)) := c0
  have hc1 : ∀ o, o < 6 → v1.cell? ⟨w.heap.size + 1, o, none⟩ = some (.int .i64 ((fun _ => 0) o)) := c1
  have hf1 : ∀ o, o < 6 → v1.frozen? ⟨w.heap.size + 1, o, none⟩ = false := f1
  go_wp2_with fail
  with_reducible refine (P1 _).mono ?_
  rintro e v2 ⟨rfl, hb⟩
  clear hc0 hc1 hf1
  replace c0 := cs_below c0 hb (by omega)
  replace c1 := cs_below c1 hb (by omega)
  replace f1 := fs_below f1 hb (by omega)
  replace HBa := HBa.trans (hb.mono (by first | omega | exact HBa.size))
  replace zs := Nat.lt_of_lt_of_le zs hb.size
  clear hb
  have hc0 : ∀ o, o < 6 → v2.cell? ⟨w.heap.size, o, none⟩ = some (.int .i64 (P o)) := c0
  have hc1 : ∀ o, o < 6 → v2.cell? ⟨w.heap.size + 1, o, none⟩ = some (.int .i64 ((fun _ => 0) o)) := c1
  have hf1 : ∀ o, o < 6 → v2.frozen? ⟨w.heap.size + 1, o, none⟩ = false := f1
  go_wp2_with fail
  with_reducible refine (P2 _).mono ?_
  rintro e v3 ⟨rfl, hb⟩
  clear hc0 hc1 hf1
  replace c0 := cs_below c0 hb (by omega)
  replace c1 := cs_below c1 hb (by omega)
  replace f1 := fs_below f1 hb (by omega)
  replace HBa := HBa.trans (hb.mono (by first | omega | exact HBa.size))
  replace zs := Nat.lt_of_lt_of_le zs hb.size
  clear hb
  have hc0 : ∀ o, o < 6 → v3.cell? ⟨w.heap.size, o, none⟩ = some (.int .i64 (P o)) := c0
  have hc1 : ∀ o, o < 6 → v3.cell? ⟨w.heap.size + 1, o, none⟩ = some (.int .i64 ((fun _ => 0) o)) := c1
  have hf1 : ∀ o, o < 6 → v3.frozen? ⟨w.heap.size + 1, o, none⟩ = false := f1
  go_upto_region 2 with fail
  clear hc0 hc1 hf1
  have zb := HBa.size
  refine opq (fun wx => Cs wx (w.heap.size) 6 P ∧ Cs wx (w.heap.size + 1) 6 (fun _ => 0) ∧ Fs wx (w.heap.size + 1) 6 ∧ Cs wx (v3.heap.size) 2 (fg2 0 1) ∧ Cs wx (v3.heap.size + 1) 2 (fg2 1 a) ∧ Cs wx (v3.heap.size + 1 + 1) 2 (fg2 1 b) ∧ v3.heap.size + 1 + 1 < wx.heap.size ∧ Below w.heap.size w wx) ?_ ?_
  · exact ⟨by (repeat (first | with_reducible exact c0 | with_reducible refine cs_drewN ?_ | with_reducible refine cs_drew ?_ | with_reducible refine cs_ext ?_ (by first | omega | (simp [ext_size, World.setCell] <;> omega)) _ _ | with_reducible refine cs_alloc _ ?_ (by first | omega | (simp [ext_size, World.setCell] <;> omega)) | with_reducible refine cs_up ?_ (by decide) | with_reducible refine cs_set _ ?_ (by first | omega | (simp <;> omega)))), by (repeat (first | with_reducible exact c1 | with_reducible refine cs_drewN ?_ | with_reducible refine cs_drew ?_ | with_reducible refine cs_ext ?_ (by first | omega | (simp [ext_size, World.setCell] <;> omega)) _ _ | with_reducible refine cs_alloc _ ?_ (by first | omega | (simp [ext_size, World.setCell] <;> omega)) | with_reducible refine cs_up ?_ (by decide) | with_reducible refine cs_set _ ?_ (by first | omega | (simp <;> omega)))), by (repeat (first | with_reducible exact f1 | with_reducible refine fs_drewN ?_ | with_reducible refine fs_drew ?_ | with_reducible refine fs_ext ?_ (by first | omega | (simp [ext_size, World.setCell] <;> omega)) _ _ | with_reducible refine fs_alloc _ ?_ (by first | omega | (simp [ext_size, World.setCell] <;> omega)) | with_reducible refine fs_set _ ?_)), by (intro o ho; rcases (show o = 0 ∨ o = 1 by omega) with rfl | rfl <;> (simp (maxDischargeDepth := 8) [fg2, fg6, go_sem, World.cell?_alloc_past, ltk2, ltk3, ltk4, ltk5])), by (intro o ho; rcases (show o = 0 ∨ o = 1 by omega) with rfl | rfl <;> (simp (maxDischargeDepth := 8) [fg2, fg6, go_sem, World.cell?_alloc_past, ltk2, ltk3, ltk4, ltk5])), by (intro o ho; rcases (show o = 0 ∨ o = 1 by omega) with rfl | rfl <;> (simp (maxDischargeDepth := 8) [fg2, fg6, go_sem, World.cell?_alloc_past, ltk2, ltk3, ltk4, ltk5])), by (simp [World.setCell] <;> omega), by (repeat (first | with_reducible exact HBa | (with_reducible refine bextm ?_ (by first | omega | (simp [ext_size, World.setCell] <;> omega)) _ _) | (with_reducible refine below_drewN ?_ _) | (with_reducible refine Below.drew ?_) | (with_reducible refine Below.alloc ?_ (by first | omega | (simp [ext_size, World.setCell] <;> omega)) _) | (with_reducible refine Below.setCell ?_ (by first | omega | (simp [ext_size, World.setCell] <;> omega)) _)))⟩
  have y4 := zs
  clear c0 c1 f1 HBa zb zs
  generalize hq : v3.heap.size = q3 at *
  clear hq
  rintro u4 ⟨c0, c1, f1, d0, d1, d2, zn, HBa⟩
  have zs := zn
  clear zn
  have i0 : fg2 0 1 0 = 0 := rfl
  have i1 : fg2 0 1 1 = 1 := rfl
  have i2 : fg2 1 a 0 = 1 := rfl
  have i3 : fg2 1 a 1 = a := rfl
  have i4 : fg2 1 b 0 = 1 := rfl
  have i5 : fg2 1 b 1 = b := rfl
  have hc0 : ∀ o, o < 6 → u4.cell? ⟨w.heap.size, o, none⟩ = some (.int .i64 (P o)) := c0
  have hc1 : ∀ o, o < 6 → u4.cell? ⟨w.heap.size + 1, o, none⟩ = some (.int .i64 ((fun _ => 0) o)) := c1
  have hf1 : ∀ o, o < 6 → u4.frozen? ⟨w.heap.size + 1, o, none⟩ = false := f1
  have hd0 : ∀ o, o < 2 → u4.cell? ⟨q3, o, none⟩ = some (.int .i64 ((fg2 0 1) o)) := d0
  have hd1 : ∀ o, o < 2 → u4.cell? ⟨q3 + 1, o, none⟩ = some (.int .i64 ((fg2 1 a) o)) := d1
  have hd2 : ∀ o, o < 2 → u4.cell? ⟨q3 + 1 + 1, o, none⟩ = some (.int .i64 ((fg2 1 b) o)) := d2
  go_wp2_with fail
  with_reducible refine (AP _).mono ?_
  rintro e v5 ⟨rfl, hb⟩
  clear hc0 hc1 hf1 hd0 hd1 hd2
  replace c0 := cs_below c0 hb (by omega)
  replace c1 := cs_below c1 hb (by omega)
  replace f1 := fs_below f1 hb (by omega)
  replace d0 := cs_below d0 hb (by omega)
  replace d1 := cs_below d1 hb (by omega)
  replace d2 := cs_below d2 hb (by omega)
  replace HBa := HBa.trans (hb.mono (by first | omega | exact HBa.size))
  replace zs := Nat.lt_of_lt_of_le zs hb.size
  clear hb
  clear c0
  clear d0
  clear d1
  clear d2
  have hc1 : ∀ o, o < 6 → v5.cell? ⟨w.heap.size + 1, o, none⟩ = some (.int .i64 ((fun _ => 0) o)) := c1
  have hf1 : ∀ o, o < 6 → v5.frozen? ⟨w.heap.size + 1, o, none⟩ = false := f1
  go_wp2
  refine bodyPost_ret (by simp [results, Try.results84, go_sem, ext_cell, World.cell?_alloc_past, ltk2, ltk3, ltk4, ltk5, ltk6, ltk7, ltk8, ltk9, *]; try rfl) rfl ?_
  exact ⟨rfl, by (repeat (first | with_reducible exact HBa | (with_reducible refine bextm ?_ (by first | omega | (simp [ext_size, World.setCell] <;> omega)) _ _) | (with_reducible refine below_drewN ?_ _) | (with_reducible refine Below.drew ?_) | (with_reducible refine Below.alloc ?_ (by first | omega | (simp [ext_size, World.setCell] <;> omega)) _) | (with_reducible refine Below.setCell ?_ (by first | omega | (simp [ext_size, World.setCell] <;> omega)) _)))⟩
set_option maxRecDepth 100000 in
set_option maxHeartbeats 3200000 in
theorem geo_relative (P R : Nat → Int) (A B e : Int) (SH : ∀ w : World, Calls Try.prog 84 #[.agg #[.int .i64 (P 0), .int .i64 (P 1), .int .i64 (P 2), .int .i64 (P 3), .int .i64 (P 4), .int .i64 (P 5)], .int .i64 A, .int .i64 B] w fun x w' => x = .returned (.tuple #[.agg #[.int .i64 (R 0), .int .i64 (R 1), .int .i64 (R 2), .int .i64 (R 3), .int .i64 (R 4), .int .i64 (R 5)], .int .i64 e]) ∧ Below w.heap.size w w') (w : World) :
    Calls Try.prog 72 #[.agg #[.int .i64 A, .int .i64 B], .agg #[.int .i64 (P 0), .int .i64 (P 1), .int .i64 (P 2), .int .i64 (P 3), .int .i64 (P 4), .int .i64 (P 5)]] w fun x w' => x = .returned (.tuple #[.agg #[.int .i64 (R 0), .int .i64 (R 1), .int .i64 (R 2), .int .i64 (R 3), .int .i64 (R 4), .int .i64 (R 5)], .int .i64 e]) ∧ Below w.heap.size w w' := by
  have dAl := dAl; have dSt := dSt
  go_enter Try.func72, Try.ntmps72
  go_upto_region 1 with fail
  refine opq (fun wx => Cs wx (w.heap.size) 2 (fg2 A B) ∧ Cs wx (w.heap.size + 1) 6 P ∧ Cs wx (w.heap.size + 1 + 1) 6 (fun _ => 0) ∧ Fs wx (w.heap.size + 1 + 1) 6 ∧ w.heap.size + 1 + 1 < wx.heap.size ∧ Below w.heap.size w wx) ?_ ?_
  · exact ⟨cs_alloc _ (cs_alloc _ (cs_new (by simp) (arg2 A B)) (by simp <;> omega)) (by simp <;> omega), cs_alloc _ (cs_new (by simp) (arrV P)) (by simp <;> omega), cs_new (by simp) (arr06), fs_new (by simp), by simp, by (repeat (first | with_reducible exact b0 _ | (with_reducible refine bext ?_ _ _) | (with_reducible refine below_drewN ?_ _) | (with_reducible refine Below.drew ?_) | (with_reducible refine bal ?_ _)))⟩
  rintro w0 ⟨c0, c1, c2, f2, zs, HBa⟩
  have i0 : fg2 A B 0 = A := rfl
  have i1 : fg2 A B 1 = B := rfl
  have hc0 : ∀ o, o < 2 → w0.cell? ⟨w.heap.size, o, none⟩ = some (.int .i64 ((fg2 A B) o)) := c0
  have hc1 : ∀ o, o < 6 → w0.cell? ⟨w.heap.size + 1, o, none⟩ = some (.int .i64 (P o)) := c1
  have hc2 : ∀ o, o < 6 → w0.cell? ⟨w.heap.size + 1 + 1, o, none⟩ = some (.int .i64 ((fun _ => 0) o)) := c2
  have hf2 : ∀ o, o < 6 → w0.frozen? ⟨w.heap.size + 1 + 1, o, none⟩ = false := f2
  go_wp2_with fail
  with_reducible refine (SH _).mono ?_
  rintro e v1 ⟨rfl, hb⟩
  clear hc0 hc1 hc2 hf2
  replace c0 := cs_below c0 hb (by omega)
  replace c1 := cs_below c1 hb (by omega)
  replace c2 := cs_below c2 hb (by omega)
  replace f2 := fs_below f2 hb (by omega)
  replace HBa := HBa.trans (hb.mono (by first | omega | exact HBa.size))
  replace zs := Nat.lt_of_lt_of_le zs hb.size
  clear hb
  clear c0
  clear c1
  have hc2 : ∀ o, o < 6 → v1.cell? ⟨w.heap.size + 1 + 1, o, none⟩ = some (.int .i64 ((fun _ => 0) o)) := c2
  have hf2 : ∀ o, o < 6 → v1.frozen? ⟨w.heap.size + 1 + 1, o, none⟩ = false := f2
  go_wp2
  refine bodyPost_ret (by simp [results, Try.results72, go_sem, ext_cell, World.cell?_alloc_past, ltk2, ltk3, ltk4, ltk5, ltk6, ltk7, ltk8, ltk9, *]; try rfl) rfl ?_
  exact ⟨rfl, by (repeat (first | with_reducible exact HBa | (with_reducible refine bextm ?_ (by first | omega | (simp [ext_size, World.setCell] <;> omega)) _ _) | (with_reducible refine below_drewN ?_ _) | (with_reducible refine Below.drew ?_) | (with_reducible refine Below.alloc ?_ (by first | omega | (simp [ext_size, World.setCell] <;> omega)) _) | (with_reducible refine Below.setCell ?_ (by first | omega | (simp [ext_size, World.setCell] <;> omega)) _)))⟩
set_option maxRecDepth 100000 in
set_option maxHeartbeats 3200000 in
theorem geo_Inside (P R : Nat → Int) (A B sg : Int) (CK : ∀ (W : World) (gg : Nat), gg < W.heap.size → (∀ o, o < 6 → W.cell? ⟨gg, o, none⟩ = some (.int .i64 (P o))) → Calls Try.prog 71 #[.agg #[.int .i64 A, .int .i64 B], .slice (some ⟨gg, 0, none⟩) 1 1] W fun x w' => x = .returned (.int .i64 0) ∧ Below W.heap.size W w') (RL : ∀ w : World, Calls Try.prog 72 #[.agg #[.int .i64 A, .int .i64 B], .agg #[.int .i64 (P 0), .int .i64 (P 1), .int .i64 (P 2), .int .i64 (P 3), .int .i64 (P 4), .int .i64 (P 5)]] w fun x w' => x = .returned (.tuple #[.agg #[.int .i64 (R 0), .int .i64 (R 1), .int .i64 (R 2), .int .i64 (R 3), .int .i64 (R 4), .int .i64 (R 5)], .int .i64 0]) ∧ Below w.heap.size w w') (CM : ∀ w : World, Calls Try.prog 73 #[.agg #[.int .i64 (R 0), .int .i64 (R 1), .int .i64 (R 2), .int .i64 (R 3), .int .i64 (R 4), .int .i64 (R 5)], .agg #[.int .i64 (R 0), .int .i64 (R 1), .int .i64 (R 2), .int .i64 (R 3), .int .i64 (R 4), .int .i64 (R 5)]] w fun x w' => x = .returned (.tuple #[.int .i64 sg, .int .i64 0]) ∧ Below w.heap.size w w') (w : World) :
    Calls Try.prog 26 #[.agg #[.int .i64 A, .int .i64 B], .agg #[.int .i64 (P 0), .int .i64 (P 1), .int .i64 (P 2), .int .i64 (P 3), .int .i64 (P 4), .int .i64 (P 5)]] w fun x w' => x = .returned (.tuple #[.int .i64 sg, .int .i64 0]) ∧ Below w.heap.size w w' := by
  have dAl := dAl; have dSt := dSt
  go_enter Try.func26, Try.ntmps26
  go_upto_region 1 with fail
  refine opq (fun wx => Cs wx (w.heap.size) 2 (fg2 A B) ∧ Cs wx (w.heap.size + 1) 6 P ∧ w.heap.size + 1 < wx.heap.size ∧ Below w.heap.size w wx) ?_ ?_
  · exact ⟨cs_alloc _ (cs_new (by simp) (arg2 A B)) (by simp <;> omega), cs_new (by simp) (arrV P), by simp, by (repeat (first | with_reducible exact b0 _ | (with_reducible refine bext ?_ _ _) | (with_reducible refine below_drewN ?_ _) | (with_reducible refine Below.drew ?_) | (with_reducible refine bal ?_ _)))⟩
  rintro w0 ⟨c0, c1, zs, HBa⟩
  have i0 : fg2 A B 0 = A := rfl
  have i1 : fg2 A B 1 = B := rfl
  have hc0 : ∀ o, o < 2 → w0.cell? ⟨w.heap.size, o, none⟩ = some (.int .i64 ((fg2 A B) o)) := c0
  have hc1 : ∀ o, o < 6 → w0.cell? ⟨w.heap.size + 1, o, none⟩ = some (.int .i64 (P o)) := c1
  go_wp2_with fail
  with_reducible refine (CK _ _ ?_ ?_).mono ?_
  · simp
  · exact cs_new (by simp) (arrV P)
  rintro e v1 ⟨rfl, hb⟩
  replace hb := bt (bal (b0 _) _) hb
  clear hc0 hc1
  replace c0 := cs_below c0 hb (by omega)
  replace c1 := cs_below c1 hb (by omega)
  replace HBa := HBa.trans (hb.mono (by first | omega | exact HBa.size))
  replace zs := Nat.lt_of_lt_of_le zs hb.size
  clear hb
  have hc0 : ∀ o, o < 2 → v1.cell? ⟨w.heap.size, o, none⟩ = some (.int .i64 ((fg2 A B) o)) := c0
  have hc1 : ∀ o, o < 6 → v1.cell? ⟨w.heap.size + 1, o, none⟩ = some (.int .i64 (P o)) := c1
  go_wp2_with fail
  with_reducible refine (RL _).mono ?_
  rintro e v2 ⟨rfl, hb⟩
  clear hc0 hc1
  replace c0 := cs_below c0 hb (by omega)
  replace c1 := cs_below c1 hb (by omega)
  replace HBa := HBa.trans (hb.mono (by first | omega | exact HBa.size))
  replace zs := Nat.lt_of_lt_of_le zs hb.size
  clear hb
  have hc0 : ∀ o, o < 2 → v2.cell? ⟨w.heap.size, o, none⟩ = some (.int .i64 ((fg2 A B) o)) := c0
  have hc1 : ∀ o, o < 6 → v2.cell? ⟨w.heap.size + 1, o, none⟩ = some (.int .i64 (P o)) := c1
  go_upto_region 7 with fail
  clear hc0 hc1
  have zb := HBa.size
  refine opq (fun wx => Cs wx (w.heap.size) 2 (fg2 A B) ∧ Cs wx (w.heap.size + 1) 6 P ∧ Cs wx (v2.heap.size) 6 R ∧ v2.heap.size < wx.heap.size ∧ Below w.heap.size w wx) ?_ ?_
  · exact ⟨by (repeat (first | with_reducible exact c0 | with_reducible refine cs_drewN ?_ | with_reducible refine cs_drew ?_ | with_reducible refine cs_ext ?_ (by first | omega | (simp [ext_size, World.setCell] <;> omega)) _ _ | with_reducible refine cs_alloc _ ?_ (by first | omega | (simp [ext_size, World.setCell] <;> omega)) | with_reducible refine cs_up ?_ (by decide) | with_reducible refine cs_set _ ?_ (by first | omega | (simp <;> omega)))), by (repeat (first | with_reducible exact c1 | with_reducible refine cs_drewN ?_ | with_reducible refine cs_drew ?_ | with_reducible refine cs_ext ?_ (by first | omega | (simp [ext_size, World.setCell] <;> omega)) _ _ | with_reducible refine cs_alloc _ ?_ (by first | omega | (simp [ext_size, World.setCell] <;> omega)) | with_reducible refine cs_up ?_ (by decide) | with_reducible refine cs_set _ ?_ (by first | omega | (simp <;> omega)))), by (intro o ho; rcases (show o = 0 ∨ o = 1 ∨ o = 2 ∨ o = 3 ∨ o = 4 ∨ o = 5 by omega) with rfl | rfl | rfl | rfl | rfl | rfl <;> (simp (maxDischargeDepth := 8) [fg2, fg6, go_sem, World.cell?_alloc_past, ltk2, ltk3, ltk4, ltk5])), by (simp [World.setCell] <;> omega), by (repeat (first | with_reducible exact HBa | (with_reducible refine bextm ?_ (by first | omega | (simp [ext_size, World.setCell] <;> omega)) _ _) | (with_reducible refine below_drewN ?_ _) | (with_reducible refine Below.drew ?_) | (with_reducible refine Below.alloc ?_ (by first | omega | (simp [ext_size, World.setCell] <;> omega)) _) | (with_reducible refine Below.setCell ?_ (by first | omega | (simp [ext_size, World.setCell] <;> omega)) _)))⟩
  have y3 := zs
  clear c0 c1 HBa zb zs
  generalize hq : v2.heap.size = q2 at *
  clear hq
  rintro u3 ⟨c0, c1, d0, zn, HBa⟩
  have zs := zn
  clear zn
  have hc0 : ∀ o, o < 2 → u3.cell? ⟨w.heap.size, o, none⟩ = some (.int .i64 ((fg2 A B) o)) := c0
  have hc1 : ∀ o, o < 6 → u3.cell? ⟨w.heap.size + 1, o, none⟩ = some (.int .i64 (P o)) := c1
  have hd0 : ∀ o, o < 6 → u3.cell? ⟨q2, o, none⟩ = some (.int .i64 (R o)) := d0
  go_wp2_with fail
  with_reducible refine (CM _).mono ?_
  rintro e v4 ⟨rfl, hb⟩
  clear hc0 hc1 hd0
  replace c0 := cs_below c0 hb (by omega)
  replace c1 := cs_below c1 hb (by omega)
  replace d0 := cs_below d0 hb (by omega)
  replace HBa := HBa.trans (hb.mono (by first | omega | exact HBa.size))
  replace zs := Nat.lt_of_lt_of_le zs hb.size
  clear hb
  go_wp2
  refine bodyPost_ret (by simp [results, Try.results26, go_sem, ext_cell, World.cell?_alloc_past, ltk2, ltk3, ltk4, ltk5, ltk6, ltk7, ltk8, ltk9, *]; try rfl) rfl ?_
  exact ⟨rfl, HBa⟩
theorem wrap_in {n : Int} (h1 : -9223372036854775808 ≤ n) (h2 : n ≤ 9223372036854775807) : IntKind.i64.wrap n = n := by rw [IntKind.wrap_i64]; omega
set_option maxRecDepth 100000 in
set_option maxHeartbeats 3200000 in
theorem geo_Normal (P R : Nat → Int) (A B a b e : Int) (m1 : IntKind.i64.wrap (A * A) = a) (m2 : IntKind.i64.wrap (B * B) = b) (CK : ∀ (W : World) (gg : Nat), gg < W.heap.size → (∀ o, o < 6 → W.cell? ⟨gg, o, none⟩ = some (.int .i64 (P o))) → Calls Try.prog 71 #[.agg #[.int .i64 A, .int .i64 B], .slice (some ⟨gg, 0, none⟩) 1 1] W fun x w' => x = .returned (.int .i64 0) ∧ Below W.heap.size W w') (SH : ∀ w : World, Calls Try.prog 84 #[.agg #[.int .i64 (P 0), .int .i64 (P 1), .int .i64 (P 2), .int .i64 (P 3), .int .i64 (P 4), .int .i64 (P 5)], .int .i64 a, .int .i64 b] w fun x w' => x = .returned (.tuple #[.agg #[.int .i64 (R 0), .int .i64 (R 1), .int .i64 (R 2), .int .i64 (R 3), .int .i64 (R 4), .int .i64 (R 5)], .int .i64 e]) ∧ Below w.heap.size w w') (w : World) :
    Calls Try.prog 32 #[.agg #[.int .i64 A, .int .i64 B], .agg #[.int .i64 (P 0), .int .i64 (P 1), .int .i64 (P 2), .int .i64 (P 3), .int .i64 (P 4), .int .i64 (P 5)]] w fun x w' => x = .returned (.tuple #[.agg #[.int .i64 (R 0), .int .i64 (R 1), .int .i64 (R 2), .int .i64 (R 3), .int .i64 (R 4), .int .i64 (R 5)], .int .i64 e]) ∧ Below w.heap.size w w' := by
  have dAl := dAl; have dSt := dSt
  go_enter Try.func32, Try.ntmps32
  go_upto_region 1 with fail
  refine opq (fun wx => Cs wx (w.heap.size) 2 (fg2 A B) ∧ Cs wx (w.heap.size + 1) 6 P ∧ Cs wx (w.heap.size + 1 + 1) 6 (fun _ => 0) ∧ Fs wx (w.heap.size + 1 + 1) 6 ∧ w.heap.size + 1 + 1 < wx.heap.size ∧ Below w.heap.size w wx) ?_ ?_
  · exact ⟨cs_alloc _ (cs_alloc _ (cs_new (by simp) (arg2 A B)) (by simp <;> omega)) (by simp <;> omega), cs_alloc _ (cs_new (by simp) (arrV P)) (by simp <;> omega), cs_new (by simp) (arr06), fs_new (by simp), by simp, by (repeat (first | with_reducible exact b0 _ | (with_reducible refine bext ?_ _ _) | (with_reducible refine below_drewN ?_ _) | (with_reducible refine Below.drew ?_) | (with_reducible refine bal ?_ _)))⟩
  rintro w0 ⟨c0, c1, c2, f2, zs, HBa⟩
  have i0 : fg2 A B 0 = A := rfl
  have i1 : fg2 A B 1 = B := rfl
  have hc0 : ∀ o, o < 2 → w0.cell? ⟨w.heap.size, o, none⟩ = some (.int .i64 ((fg2 A B) o)) := c0
  have hc1 : ∀ o, o < 6 → w0.cell? ⟨w.heap.size + 1, o, none⟩ = some (.int .i64 (P o)) := c1
  have hc2 : ∀ o, o < 6 → w0.cell? ⟨w.heap.size + 1 + 1, o, none⟩ = some (.int .i64 ((fun _ => 0) o)) := c2
  have hf2 : ∀ o, o < 6 → w0.frozen? ⟨w.heap.size + 1 + 1, o, none⟩ = false := f2
  go_wp2_with fail
  with_reducible refine (CK _ _ ?_ ?_).mono ?_
  · simp
  · exact cs_new (by simp) (arrV P)
  rintro e v1 ⟨rfl, hb⟩
  replace hb := bt (bal (b0 _) _) hb
  clear hc0 hc1 hc2 hf2
  replace c0 := cs_below c0 hb (by omega)
  replace c1 := cs_below c1 hb (by omega)
  replace c2 := cs_below c2 hb (by omega)
  replace f2 := fs_below f2 hb (by omega)
  replace HBa := HBa.trans (hb.mono (by first | omega | exact HBa.size))
  replace zs := Nat.lt_of_lt_of_le zs hb.size
  clear hb
  have hc0 : ∀ o, o < 2 → v1.cell? ⟨w.heap.size, o, none⟩ = some (.int .i64 ((fg2 A B) o)) := c0
  have hc1 : ∀ o, o < 6 → v1.cell? ⟨w.heap.size + 1, o, none⟩ = some (.int .i64 (P o)) := c1
  have hc2 : ∀ o, o < 6 → v1.cell? ⟨w.heap.size + 1 + 1, o, none⟩ = some (.int .i64 ((fun _ => 0) o)) := c2
  have hf2 : ∀ o, o < 6 → v1.frozen? ⟨w.heap.size + 1 + 1, o, none⟩ = false := f2
  go_wp2_with fail
  with_reducible refine (SH _).mono ?_
  rintro e v2 ⟨rfl, hb⟩
  clear hc0 hc1 hc2 hf2
  replace c0 := cs_below c0 hb (by omega)
  replace c1 := cs_below c1 hb (by omega)
  replace c2 := cs_below c2 hb (by omega)
  replace f2 := fs_below f2 hb (by omega)
  replace HBa := HBa.trans (hb.mono (by first | omega | exact HBa.size))
  replace zs := Nat.lt_of_lt_of_le zs hb.size
  clear hb
  clear c0
  clear c1
  have hc2 : ∀ o, o < 6 → v2.cell? ⟨w.heap.size + 1 + 1, o, none⟩ = some (.int .i64 ((fun _ => 0) o)) := c2
  have hf2 : ∀ o, o < 6 → v2.frozen? ⟨w.heap.size + 1 + 1, o, none⟩ = false := f2
  go_wp2
  refine bodyPost_ret (by simp [results, Try.results32, go_sem, ext_cell, World.cell?_alloc_past, ltk2, ltk3, ltk4, ltk5, ltk6, ltk7, ltk8, ltk9, *]; try rfl) rfl ?_
  exact ⟨rfl, by (repeat (first | with_reducible exact HBa | (with_reducible refine bextm ?_ (by first | omega | (simp [ext_size, World.setCell] <;> omega)) _ _) | (with_reducible refine below_drewN ?_ _) | (with_reducible refine Below.drew ?_) | (with_reducible refine Below.alloc ?_ (by first | omega | (simp [ext_size, World.setCell] <;> omega)) _) | (with_reducible refine Below.setCell ?_ (by first | omega | (simp [ext_size, World.setCell] <;> omega)) _)))⟩
set_option maxRecDepth 100000 in
set_option maxHeartbeats 3200000 in
theorem geo_On (P : Nat → Int) (A B sg : Int) (b : Bool) (hb0 : (sg == 0) = b) (IN : ∀ w : World, Calls Try.prog 26 #[.agg #[.int .i64 A, .int .i64 B], .agg #[.int .i64 (P 0), .int .i64 (P 1), .int .i64 (P 2), .int .i64 (P 3), .int .i64 (P 4), .int .i64 (P 5)]] w fun x w' => x = .returned (.tuple #[.int .i64 sg, .int .i64 0]) ∧ Below w.heap.size w w') (w : World) :
    Calls Try.prog 24 #[.agg #[.int .i64 A, .int .i64 B], .agg #[.int .i64 (P 0), .int .i64 (P 1), .int .i64 (P 2), .int .i64 (P 3), .int .i64 (P 4), .int .i64 (P 5)]] w fun x w' => x = .returned (.tuple #[.bool b, .int .i64 0]) ∧ Below w.heap.size w w' := by
  have dAl := dAl; have dSt := dSt
  go_enter Try.func24, Try.ntmps24
  go_upto_region 1 with fail
  refine opq (fun wx => Cs wx (w.heap.size) 2 (fg2 A B) ∧ Cs wx (w.heap.size + 1) 6 P ∧ w.heap.size + 1 < wx.heap.size ∧ Below w.heap.size w wx) ?_ ?_
  · exact ⟨cs_alloc _ (cs_new (by simp) (arg2 A B)) (by simp <;> omega), cs_new (by simp) (arrV P), by simp, by (repeat (first | with_reducible exact b0 _ | (with_reducible refine bext ?_ _ _) | (with_reducible refine below_drewN ?_ _) | (with_reducible refine Below.drew ?_) | (with_reducible refine bal ?_ _)))⟩
  rintro w0 ⟨c0, c1, zs, HBa⟩
  have i0 : fg2 A B 0 = A := rfl
  have i1 : fg2 A B 1 = B := rfl
  have hc0 : ∀ o, o < 2 → w0.cell? ⟨w.heap.size, o, none⟩ = some (.int .i64 ((fg2 A B) o)) := c0
  have hc1 : ∀ o, o < 6 → w0.cell? ⟨w.heap.size + 1, o, none⟩ = some (.int .i64 (P o)) := c1
  go_wp2_with fail
  with_reducible refine (IN _).mono ?_
  rintro e v1 ⟨rfl, hb⟩
  clear hc0 hc1
  replace c0 := cs_below c0 hb (by omega)
  replace c1 := cs_below c1 hb (by omega)
  replace HBa := HBa.trans (hb.mono (by first | omega | exact HBa.size))
  replace zs := Nat.lt_of_lt_of_le zs hb.size
  clear hb
  go_wp2
  refine bodyPost_ret (by simp [results, Try.results24, go_sem, ext_cell, World.cell?_alloc_past, ltk2, ltk3, ltk4, ltk5, ltk6, ltk7, ltk8, ltk9, *]; try rfl) rfl ?_
  exact ⟨rfl, HBa⟩
set_option maxRecDepth 100000 in
set_option maxHeartbeats 3200000 in
theorem geo_mustLie (P : Nat → Int) (A B : Int) (ON : ∀ w : World, Calls Try.prog 24 #[.agg #[.int .i64 A, .int .i64 B], .agg #[.int .i64 (P 0), .int .i64 (P 1), .int .i64 (P 2), .int .i64 (P 3), .int .i64 (P 4), .int .i64 (P 5)]] w fun x w' => x = .returned (.tuple #[.bool true, .int .i64 0]) ∧ Below w.heap.size w w') (w : World) :
    Calls Try.prog 77 #[.agg #[.int .i64 A, .int .i64 B], .agg #[.int .i64 (P 0), .int .i64 (P 1), .int .i64 (P 2), .int .i64 (P 3), .int .i64 (P 4), .int .i64 (P 5)]] w fun x w' => x = .returned (.int .i64 0) ∧ Below w.heap.size w w' := by
  have dAl := dAl; have dSt := dSt
  go_enter Try.func77, Try.ntmps77
  go_upto_region 1 with fail
  refine opq (fun wx => Cs wx (w.heap.size) 2 (fg2 A B) ∧ Cs wx (w.heap.size + 1) 6 P ∧ w.heap.size + 1 < wx.heap.size ∧ Below w.heap.size w wx) ?_ ?_
  · exact ⟨cs_alloc _ (cs_new (by simp) (arg2 A B)) (by simp <;> omega), cs_new (by simp) (arrV P), by simp, by (repeat (first | with_reducible exact b0 _ | (with_reducible refine bext ?_ _ _) | (with_reducible refine below_drewN ?_ _) | (with_reducible refine Below.drew ?_) | (with_reducible refine bal ?_ _)))⟩
  rintro w0 ⟨c0, c1, zs, HBa⟩
  have i0 : fg2 A B 0 = A := rfl
  have i1 : fg2 A B 1 = B := rfl
  have hc0 : ∀ o, o < 2 → w0.cell? ⟨w.heap.size, o, none⟩ = some (.int .i64 ((fg2 A B) o)) := c0
  have hc1 : ∀ o, o < 6 → w0.cell? ⟨w.heap.size + 1, o, none⟩ = some (.int .i64 (P o)) := c1
  go_wp2_with fail
  with_reducible refine (ON _).mono ?_
  rintro e v1 ⟨rfl, hb⟩
  clear hc0 hc1
  replace c0 := cs_below c0 hb (by omega)
  replace c1 := cs_below c1 hb (by omega)
  replace HBa := HBa.trans (hb.mono (by first | omega | exact HBa.size))
  replace zs := Nat.lt_of_lt_of_le zs hb.size
  clear hb
  go_wp2
  go_ret
  exact ⟨rfl, HBa⟩
def pq (P Q : Nat → Int) : Nat → Int
  | 0 => P 0
  | 1 => P 1
  | 2 => P 2
  | 3 => P 3
  | 4 => P 4
  | 5 => P 5
  | 6 => Q 0
  | 7 => Q 1
  | 8 => Q 2
  | 9 => Q 3
  | 10 => Q 4
  | _ => Q 5
theorem arrPQ (P Q : Nat → Int) : ∀ o, o < 12 → (#[Value.int .i64 (P 0), Value.int .i64 (P 1), Value.int .i64 (P 2), Value.int .i64 (P 3), Value.int .i64 (P 4), Value.int .i64 (P 5), Value.int .i64 (Q 0), Value.int .i64 (Q 1), Value.int .i64 (Q 2), Value.int .i64 (Q 3), Value.int .i64 (Q 4), Value.int .i64 (Q 5)] : Array Value)[o]? = some (.int .i64 (pq P Q o)) := by
  intro o ho
  rcases (show o = 0 ∨ o = 1 ∨ o = 2 ∨ o = 3 ∨ o = 4 ∨ o = 5 ∨ o = 6 ∨ o = 7 ∨ o = 8 ∨ o = 9 ∨ o = 10 ∨ o = 11 by omega) with rfl | rfl | rfl | rfl | rfl | rfl | rfl | rfl | rfl | rfl | rfl | rfl <;> rfl
set_option maxRecDepth 100000 in
set_option maxHeartbeats 3200000 in
theorem geo_Side (P Q R : Nat → Int) (A B e2 sg : Int) (CK : ∀ (W : World) (gg : Nat), gg < W.heap.size → (∀ o, o < 12 → W.cell? ⟨gg, o, none⟩ = some (.int .i64 (pq P Q o))) → Calls Try.prog 71 #[.agg #[.int .i64 A, .int .i64 B], .slice (some ⟨gg, 0, none⟩) 2 2] W fun x w' => x = .returned (.int .i64 0) ∧ Below W.heap.size W w') (ML : ∀ w : World, Calls Try.prog 77 #[.agg #[.int .i64 A, .int .i64 B], .agg #[.int .i64 (P 0), .int .i64 (P 1), .int .i64 (P 2), .int .i64 (P 3), .int .i64 (P 4), .int .i64 (P 5)]] w fun x w' => x = .returned (.int .i64 0) ∧ Below w.heap.size w w') (NO : ∀ w : World, Calls Try.prog 32 #[.agg #[.int .i64 A, .int .i64 B], .agg #[.int .i64 (P 0), .int .i64 (P 1), .int .i64 (P 2), .int .i64 (P 3), .int .i64 (P 4), .int .i64 (P 5)]] w fun x w' => x = .returned (.tuple #[.agg #[.int .i64 (R 0), .int .i64 (R 1), .int .i64 (R 2), .int .i64 (R 3), .int .i64 (R 4), .int .i64 (R 5)], .int .i64 e2]) ∧ Below w.heap.size w w') (CM : ∀ w : World, Calls Try.prog 73 #[.agg #[.int .i64 (R 0), .int .i64 (R 1), .int .i64 (R 2), .int .i64 (R 3), .int .i64 (R 4), .int .i64 (R 5)], .agg #[.int .i64 (Q 0), .int .i64 (Q 1), .int .i64 (Q 2), .int .i64 (Q 3), .int .i64 (Q 4), .int .i64 (Q 5)]] w fun x w' => x = .returned (.tuple #[.int .i64 sg, .int .i64 0]) ∧ Below w.heap.size w w') (w : World) :
    Calls Try.prog 34 #[.agg #[.int .i64 A, .int .i64 B], .agg #[.int .i64 (P 0), .int .i64 (P 1), .int .i64 (P 2), .int .i64 (P 3), .int .i64 (P 4), .int .i64 (P 5)], .agg #[.int .i64 (Q 0), .int .i64 (Q 1), .int .i64 (Q 2), .int .i64 (Q 3), .int .i64 (Q 4), .int .i64 (Q 5)]] w fun x w' => x = .returned (.tuple #[.int .i64 sg, .int .i64 0]) ∧ Below w.heap.size w w' := by
  have dAl := dAl; have dSt := dSt
  go_enter Try.func34, Try.ntmps34
  go_upto_region 1 with fail
  refine opq (fun wx => Cs wx (w.heap.size) 2 (fg2 A B) ∧ Cs wx (w.heap.size + 1) 6 P ∧ Cs wx (w.heap.size + 1 + 1) 6 Q ∧ w.heap.size + 1 + 1 < wx.heap.size ∧ Below w.heap.size w wx) ?_ ?_
  · exact ⟨cs_alloc _ (cs_alloc _ (cs_new (by simp) (arg2 A B)) (by simp <;> omega)) (by simp <;> omega), cs_alloc _ (cs_new (by simp) (arrV P)) (by simp <;> omega), cs_new (by simp) (arrV Q), by simp, by (repeat (first | with_reducible exact b0 _ | (with_reducible refine bext ?_ _ _) | (with_reducible refine below_drewN ?_ _) | (with_reducible refine Below.drew ?_) | (with_reducible refine bal ?_ _)))⟩
  rintro w0 ⟨c0, c1, c2, zs, HBa⟩
  have i0 : fg2 A B 0 = A := rfl
  have i1 : fg2 A B 1 = B := rfl
  have hc0 : ∀ o, o < 2 → w0.cell? ⟨w.heap.size, o, none⟩ = some (.int .i64 ((fg2 A B) o)) := c0
  have hc1 : ∀ o, o < 6 → w0.cell? ⟨w.heap.size + 1, o, none⟩ = some (.int .i64 (P o)) := c1
  have hc2 : ∀ o, o < 6 → w0.cell? ⟨w.heap.size + 1 + 1, o, none⟩ = some (.int .i64 (Q o)) := c2
  go_wp2_with fail
  with_reducible refine (CK _ _ ?_ ?_).mono ?_
  · simp
  · exact cs_new (by simp) (arrPQ P Q)
  rintro e v1 ⟨rfl, hb⟩
  replace hb := bt (bal (b0 _) _) hb
  clear hc0 hc1 hc2
  replace c0 := cs_below c0 hb (by omega)
  replace c1 := cs_below c1 hb (by omega)
  replace c2 := cs_below c2 hb (by omega)
  replace HBa := HBa.trans (hb.mono (by first | omega | exact HBa.size))
  replace zs := Nat.lt_of_lt_of_le zs hb.size
  clear hb
  have hc0 : ∀ o, o < 2 → v1.cell? ⟨w.heap.size, o, none⟩ = some (.int .i64 ((fg2 A B) o)) := c0
  have hc1 : ∀ o, o < 6 → v1.cell? ⟨w.heap.size + 1, o, none⟩ = some (.int .i64 (P o)) := c1
  have hc2 : ∀ o, o < 6 → v1.cell? ⟨w.heap.size + 1 + 1, o, none⟩ = some (.int .i64 (Q o)) := c2
  go_wp2_with fail
  with_reducible refine (ML _).mono ?_
  rintro e v2 ⟨rfl, hb⟩
  clear hc0 hc1 hc2
  replace c0 := cs_below c0 hb (by omega)
  replace c1 := cs_below c1 hb (by omega)
  replace c2 := cs_below c2 hb (by omega)
  replace HBa := HBa.trans (hb.mono (by first | omega | exact HBa.size))
  replace zs := Nat.lt_of_lt_of_le zs hb.size
  clear hb
  have hc0 : ∀ o, o < 2 → v2.cell? ⟨w.heap.size, o, none⟩ = some (.int .i64 ((fg2 A B) o)) := c0
  have hc1 : ∀ o, o < 6 → v2.cell? ⟨w.heap.size + 1, o, none⟩ = some (.int .i64 (P o)) := c1
  have hc2 : ∀ o, o < 6 → v2.cell? ⟨w.heap.size + 1 + 1, o, none⟩ = some (.int .i64 (Q o)) := c2
  go_wp2_with fail
  with_reducible refine (NO _).mono ?_
  rintro e v3 ⟨rfl, hb⟩
  clear hc0 hc1 hc2
  replace c0 := cs_below c0 hb (by omega)
  replace c1 := cs_below c1 hb (by omega)
  replace c2 := cs_below c2 hb (by omega)
  replace HBa := HBa.trans (hb.mono (by first | omega | exact HBa.size))
  replace zs := Nat.lt_of_lt_of_le zs hb.size
  clear hb
  have hc0 : ∀ o, o < 2 → v3.cell? ⟨w.heap.size, o, none⟩ = some (.int .i64 ((fg2 A B) o)) := c0
  have hc1 : ∀ o, o < 6 → v3.cell? ⟨w.heap.size + 1, o, none⟩ = some (.int .i64 (P o)) := c1
  have hc2 : ∀ o, o < 6 → v3.cell? ⟨w.heap.size + 1 + 1, o, none⟩ = some (.int .i64 (Q o)) := c2
  go_upto_region 8 with fail
  clear hc0 hc1 hc2
  have zb := HBa.size
  refine opq (fun wx => Cs wx (w.heap.size) 2 (fg2 A B) ∧ Cs wx (w.heap.size + 1) 6 P ∧ Cs wx (w.heap.size + 1 + 1) 6 Q ∧ Cs wx (v3.heap.size) 6 R ∧ v3.heap.size < wx.heap.size ∧ Below w.heap.size w wx) ?_ ?_
  · exact ⟨by (repeat (first | with_reducible exact c0 | with_reducible refine cs_drewN ?_ | with_reducible refine cs_drew ?_ | with_reducible refine cs_ext ?_ (by first | omega | (simp [ext_size, World.setCell] <;> omega)) _ _ | with_reducible refine cs_alloc _ ?_ (by first | omega | (simp [ext_size, World.setCell] <;> omega)) | with_reducible refine cs_up ?_ (by decide) | with_reducible refine cs_set _ ?_ (by first | omega | (simp <;> omega)))), by (repeat (first | with_reducible exact c1 | with_reducible refine cs_drewN ?_ | with_reducible refine cs_drew ?_ | with_reducible refine cs_ext ?_ (by first | omega | (simp [ext_size, World.setCell] <;> omega)) _ _ | with_reducible refine cs_alloc _ ?_ (by first | omega | (simp [ext_size, World.setCell] <;> omega)) | with_reducible refine cs_up ?_ (by decide) | with_reducible refine cs_set _ ?_ (by first | omega | (simp <;> omega)))), by (repeat (first | with_reducible exact c2 | with_reducible refine cs_drewN ?_ | with_reducible refine cs_drew ?_ | with_reducible refine cs_ext ?_ (by first | omega | (simp [ext_size, World.setCell] <;> omega)) _ _ | with_reducible refine cs_alloc _ ?_ (by first | omega | (simp [ext_size, World.setCell] <;> omega)) | with_reducible refine cs_up ?_ (by decide) | with_reducible refine cs_set _ ?_ (by first | omega | (simp <;> omega)))), by (intro o ho; rcases (show o = 0 ∨ o = 1 ∨ o = 2 ∨ o = 3 ∨ o = 4 ∨ o = 5 by omega) with rfl | rfl | rfl | rfl | rfl | rfl <;> (simp (maxDischargeDepth := 8) [fg2, fg6, go_sem, World.cell?_alloc_past, ltk2, ltk3, ltk4, ltk5])), by (simp [World.setCell] <;> omega), by (repeat (first | with_reducible exact HBa | (with_reducible refine bextm ?_ (by first | omega | (simp [ext_size, World.setCell] <;> omega)) _ _) | (with_reducible refine below_drewN ?_ _) | (with_reducible refine Below.drew ?_) | (with_reducible refine Below.alloc ?_ (by first | omega | (simp [ext_size, World.setCell] <;> omega)) _) | (with_reducible refine Below.setCell ?_ (by first | omega | (simp [ext_size, World.setCell] <;> omega)) _)))⟩
  have y4 := zs
  clear c0 c1 c2 HBa zb zs
  generalize hq : v3.heap.size = q3 at *
  clear hq
  rintro u4 ⟨c0, c1, c2, d0, zn, HBa⟩
  have zs := zn
  clear zn
  have hc0 : ∀ o, o < 2 → u4.cell? ⟨w.heap.size, o, none⟩ = some (.int .i64 ((fg2 A B) o)) := c0
  have hc1 : ∀ o, o < 6 → u4.cell? ⟨w.heap.size + 1, o, none⟩ = some (.int .i64 (P o)) := c1
  have hc2 : ∀ o, o < 6 → u4.cell? ⟨w.heap.size + 1 + 1, o, none⟩ = some (.int .i64 (Q o)) := c2
  have hd0 : ∀ o, o < 6 → u4.cell? ⟨q3, o, none⟩ = some (.int .i64 (R o)) := d0
  go_wp2_with fail
  with_reducible refine (CM _).mono ?_
  rintro e v5 ⟨rfl, hb⟩
  clear hc0 hc1 hc2 hd0
  replace c0 := cs_below c0 hb (by omega)
  replace c1 := cs_below c1 hb (by omega)
  replace c2 := cs_below c2 hb (by omega)
  replace d0 := cs_below d0 hb (by omega)
  replace HBa := HBa.trans (hb.mono (by first | omega | exact HBa.size))
  replace zs := Nat.lt_of_lt_of_le zs hb.size
  clear hb
  go_wp2
  refine bodyPost_ret (by simp [results, Try.results34, go_sem, ext_cell, World.cell?_alloc_past, ltk2, ltk3, ltk4, ltk5, ltk6, ltk7, ltk8, ltk9, *]; try rfl) rfl ?_
  exact ⟨rfl, HBa⟩
set_option maxRecDepth 100000 in
set_option maxHeartbeats 3200000 in
theorem geo_compare (P Q : Nat → Int) (N D sg : Int) (DT : ∀ w : World, Calls Try.prog 41 #[.agg #[.int .i64 (P 0), .int .i64 (P 1), .int .i64 (P 2), .int .i64 (P 3), .int .i64 (P 4), .int .i64 (P 5)], .agg #[.int .i64 (Q 0), .int .i64 (Q 1), .int .i64 (Q 2), .int .i64 (Q 3), .int .i64 (Q 4), .int .i64 (Q 5)]] w fun x w' => x = .returned (.tuple #[.agg #[.int .i64 N, .int .i64 D], .int .i64 0]) ∧ Below w.heap.size w w') (CM : ∀ w : World, Calls Try.prog 111 #[.agg #[.int .i64 N, .int .i64 D], .agg #[.int .i64 1, .int .i64 1]] w fun x w' => x = .returned (.tuple #[.int .i64 sg, .int .i64 0]) ∧ Below w.heap.size w w') (w : World) :
    Calls Try.prog 73 #[.agg #[.int .i64 (P 0), .int .i64 (P 1), .int .i64 (P 2), .int .i64 (P 3), .int .i64 (P 4), .int .i64 (P 5)], .agg #[.int .i64 (Q 0), .int .i64 (Q 1), .int .i64 (Q 2), .int .i64 (Q 3), .int .i64 (Q 4), .int .i64 (Q 5)]] w fun x w' => x = .returned (.tuple #[.int .i64 sg, .int .i64 0]) ∧ Below w.heap.size w w' := by
  have W1 := fun w => geo_whole 1 w
  have dAl := dAl; have dSt := dSt
  go_enter Try.func73, Try.ntmps73
  go_upto_region 1 with fail
  refine opq (fun wx => Cs wx (w.heap.size) 6 P ∧ Cs wx (w.heap.size + 1) 6 Q ∧ w.heap.size + 1 < wx.heap.size ∧ Below w.heap.size w wx) ?_ ?_
  · exact ⟨cs_alloc _ (cs_new (by simp) (arrV P)) (by simp <;> omega), cs_new (by simp) (arrV Q), by simp, by (repeat (first | with_reducible exact b0 _ | (with_reducible refine bext ?_ _ _) | (with_reducible refine below_drewN ?_ _) | (with_reducible refine Below.drew ?_) | (with_reducible refine bal ?_ _)))⟩
  rintro w0 ⟨c0, c1, zs, HBa⟩
  have hc0 : ∀ o, o < 6 → w0.cell? ⟨w.heap.size, o, none⟩ = some (.int .i64 (P o)) := c0
  have hc1 : ∀ o, o < 6 → w0.cell? ⟨w.heap.size + 1, o, none⟩ = some (.int .i64 (Q o)) := c1
  go_wp2_with fail
  with_reducible refine (DT _).mono ?_
  rintro e v1 ⟨rfl, hb⟩
  clear hc0 hc1
  replace c0 := cs_below c0 hb (by omega)
  replace c1 := cs_below c1 hb (by omega)
  replace HBa := HBa.trans (hb.mono (by first | omega | exact HBa.size))
  replace zs := Nat.lt_of_lt_of_le zs hb.size
  clear hb
  clear c0
  clear c1
  go_upto_region 4 with fail
  have zb := HBa.size
  refine opq (fun wx => Cs wx (v1.heap.size) 2 (fg2 N D) ∧ v1.heap.size < wx.heap.size ∧ Below w.heap.size w wx) ?_ ?_
  · exact ⟨by (intro o ho; rcases (show o = 0 ∨ o = 1 by omega) with rfl | rfl <;> (simp (maxDischargeDepth := 8) [fg2, fg6, go_sem, World.cell?_alloc_past, ltk2, ltk3, ltk4, ltk5])), by (simp [World.setCell] <;> omega), by (repeat (first | with_reducible exact HBa | (with_reducible refine bextm ?_ (by first | omega | (simp [ext_size, World.setCell] <;> omega)) _ _) | (with_reducible refine below_drewN ?_ _) | (with_reducible refine Below.drew ?_) | (with_reducible refine Below.alloc ?_ (by first | omega | (simp [ext_size, World.setCell] <;> omega)) _) | (with_reducible refine Below.setCell ?_ (by first | omega | (simp [ext_size, World.setCell] <;> omega)) _)))⟩
  have y2 := zs
  clear  HBa zb zs
  generalize hq : v1.heap.size = q1 at *
  clear hq
  rintro u2 ⟨d0, zn, HBa⟩
  have zs := zn
  clear zn
  refine wp_region_held_drew (S := (fun w' => Below u2.heap.size u2 w')) (by kernel_rfl) ?_ (fun hHeld => ?_)
  · exact Below.drew (Below.refl _ _)
  refine take2 0 (.tmp 6) q1 (fg2 N D) rfl rfl (by kernel_rfl) (by kernel_rfl) (by kernel_rfl) (fun _ _ _ h => h) (by rfl) rfl (fun w k => cs_below d0 k (by omega)) (by assumption) ?_
  try simp only [Act.put, List.setIfInBounds_toArray, List.set_cons_zero, List.set_cons_succ, fg2]
  refine wpAnyH_ready (rs := [1]) (by kernel_rfl) (by simp) ?_
  refine AllReadyH.cons (o := _) rfl (fun K hK => ?_) AllReadyH.nil
  go_simp
  with_reducible refine (W1 _).mono ?_
  rintro e x1 ⟨rfl, hb⟩
  replace hHeld := Below.trans hHeld (Below.mono hb (Below.size hHeld))
  clear hb
  (try go_wp2_with fail)
  refine hK.out _ _ ?_ (fun hHeld2 => ?_)
  · (repeat (first | with_reducible exact hHeld | with_reducible exact Below.refl _ _ | with_reducible refine bextm ?_ (by first | omega | (simp [ext_size, World.setCell] <;> omega)) _ _ | with_reducible refine below_drewN ?_ _ | with_reducible refine Below.drew ?_ | with_reducible refine Below.alloc ?_ (by first | omega | (simp [ext_size, World.setCell] <;> omega)) _ | with_reducible refine Below.setCell ?_ (by first | omega | (simp <;> omega)) _))
  clear hK K hHeld
  have hHeld := hHeld2
  clear hHeld2
  try simp only [Act.put, List.setIfInBounds_toArray, List.set_cons_zero, List.set_cons_succ, fg2]
  refine wpAnyH_ready (rs := [2]) (by kernel_rfl) (by simp) ?_
  refine AllReadyH.cons (o := _) rfl (fun K hK => ?_) AllReadyH.nil
  go_simp
  with_reducible refine (CM _).mono ?_
  rintro e x2 ⟨rfl, hb⟩
  replace hHeld := Below.trans hHeld (Below.mono hb (Below.size hHeld))
  clear hb
  (try go_wp2_with fail)
  refine hK.out _ _ ?_ (fun hHeld2 => ?_)
  · (repeat (first | with_reducible exact hHeld | with_reducible exact Below.refl _ _ | with_reducible refine bextm ?_ (by first | omega | (simp [ext_size, World.setCell] <;> omega)) _ _ | with_reducible refine below_drewN ?_ _ | with_reducible refine Below.drew ?_ | with_reducible refine Below.alloc ?_ (by first | omega | (simp [ext_size, World.setCell] <;> omega)) _ | with_reducible refine Below.setCell ?_ (by first | omega | (simp <;> omega)) _))
  clear hK K hHeld
  have hHeld := hHeld2
  clear hHeld2
  try simp only [Act.put, List.setIfInBounds_toArray, List.set_cons_zero, List.set_cons_succ, fg2]
  refine wpAnyH_take (i := 3) (oi := _) (v := ?_) rfl (by kernel_rfl) (by kernel_rfl) (by kernel_rfl) (fun _ _ _ h => h) (Or.inl ⟨by rfl, ?_⟩) (by assumption) ?_
  rotate_left
  · (intro w hSw; (try dsimp only at hSw); go_simp; (try with_reducible rfl))
  try simp only [Act.put, List.setIfInBounds_toArray, List.set_cons_zero, List.set_cons_succ, fg2]
  refine wpAnyH_take (i := 4) (oi := _) (v := ?_) rfl (by kernel_rfl) (by kernel_rfl) (by kernel_rfl) (fun _ _ _ h => h) (Or.inl ⟨by rfl, ?_⟩) (by assumption) ?_
  rotate_left
  · (intro w hSw; (try dsimp only at hSw); go_simp; (try with_reducible rfl))
  try simp only [Act.put, List.setIfInBounds_toArray, List.set_cons_zero, List.set_cons_succ, fg2]
  refine wpAnyH_ready (rs := [5]) (by kernel_rfl) (by simp) ?_
  refine AllReadyH.cons (o := _) rfl (fun K hK => ?_) AllReadyH.nil
  go_simp
  refine hK.out _ _ ?_ (fun hHeld2 => ?_)
  · (repeat (first | with_reducible exact hHeld | with_reducible exact Below.refl _ _ | with_reducible refine bextm ?_ (by first | omega | (simp [ext_size, World.setCell] <;> omega)) _ _ | with_reducible refine below_drewN ?_ _ | with_reducible refine Below.drew ?_ | with_reducible refine Below.alloc ?_ (by first | omega | (simp [ext_size, World.setCell] <;> omega)) _ | with_reducible refine Below.setCell ?_ (by first | omega | (simp <;> omega)) _))
  clear hK K hHeld
  have hHeld := hHeld2
  clear hHeld2
  try simp only [Act.put, List.setIfInBounds_toArray, List.set_cons_zero, List.set_cons_succ, fg2]
  refine wpAnyH_ready (rs := [6]) (by kernel_rfl) (by simp) ?_
  refine AllReadyH.cons (o := _) rfl (fun K hK => ?_) AllReadyH.nil
  go_simp
  refine hK.out _ _ ?_ (fun hHeld2 => ?_)
  · (repeat (first | with_reducible exact hHeld | with_reducible exact Below.refl _ _ | with_reducible refine bextm ?_ (by first | omega | (simp [ext_size, World.setCell] <;> omega)) _ _ | with_reducible refine below_drewN ?_ _ | with_reducible refine Below.drew ?_ | with_reducible refine Below.alloc ?_ (by first | omega | (simp [ext_size, World.setCell] <;> omega)) _ | with_reducible refine Below.setCell ?_ (by first | omega | (simp <;> omega)) _))
  clear hK K hHeld
  have hHeld := hHeld2
  clear hHeld2
  try simp only [Act.put, List.setIfInBounds_toArray, List.set_cons_zero, List.set_cons_succ, fg2]
  refine wpAnyH_done (by kernel_rfl) ?_ _
  go_wp2
  refine bodyPost_ret (by simp [results, Try.results73, go_sem, ext_cell, World.cell?_alloc_past, ltk2, ltk3, ltk4, ltk5, ltk6, ltk7, ltk8, ltk9, *]; try rfl) rfl ?_
  exact ⟨rfl, HBa.trans (Below.mono hHeld HBa.size)⟩
end Go.Proofs.Ytdolfdmgdknboaa
namespace Go.Proofs.Ytdolfdmgdknboaa
open Go.RowKit
set_option linter.unusedVariables false
set_option linter.unusedSimpArgs false

set_option maxRecDepth 100000 in
set_option maxHeartbeats 3200000 in
theorem geo_points (A B : Int) (C : Nat → Int) (g cap m : Nat) (hm : m ≤ 2) (CG : ∀ w : World, Calls Try.prog 28 #[.agg #[.int .i64 A, .int .i64 B]] w fun x w' => x = .returned (.int .i64 0) ∧ Below w.heap.size w w')
    (VK : ∀ i, i < m → ∀ w : World, Calls Try.prog 110 #[.agg #[.int .i64 (C (i * 6)), .int .i64 (C (i * 6 + 1)), .int .i64 (C (i * 6 + 2)), .int .i64 (C (i * 6 + 3)), .int .i64 (C (i * 6 + 4)), .int .i64 (C (i * 6 + 5))]] w fun x w' => x = .returned (.int .i64 0) ∧ Below w.heap.size w w') (w : World) (hg : g < w.heap.size) (hc : ∀ o, o < 6 * m → w.cell? ⟨g, o, none⟩ = some (.int .i64 (C o))) :
    Calls Try.prog 71 #[.agg #[.int .i64 A, .int .i64 B], .slice (some ⟨g, 0, none⟩) m cap] w fun x w' => x = .returned (.int .i64 0) ∧ Below w.heap.size w w' := by
  have cC : Cs w g (6 * m) C := hc
  have HV := Lib.hid VK
  clear hc VK
  have dAl := dAl; have dSt := dSt; have xC := ext_cell; have xF := ext_frozen; have xS := ext_set; have xN := ext_drewN; have xD := ext_drew; have xL := ext_lt; have xE := ext_ne; have xG := ext_nr; have xX := ext_ext; have xL1 := ext_lt1; have xL2 := ext_lt2; have xL3 := ext_lt3; have xM0 := ext_le0; have xM1 := ext_le1; have xM2 := ext_le2
  go_enter Try.func71, Try.ntmps71
  go_wp2_with fail
  with_reducible refine (CG _).mono ?_
  rintro e v1 ⟨rfl, hb⟩
  have HBa : Below w.heap.size w v1 := bt (bal (b0 _) _) hb
  clear hb CG
  replace cC := cs_below cC HBa hg
  have zg : g < v1.heap.size := Nat.lt_of_lt_of_le hg HBa.size
  go_wp2_with fail
  go_loopg [16] m (fun kk s16 wr => ∃ i : Nat, kk = m - i ∧ s16 = .int .i64 i ∧ i ≤ m ∧ Cs wr g (6 * m) C ∧ g < wr.heap.size ∧ Below w.heap.size w wr)
  case atStart => exact ⟨0, rfl, rfl, by omega, cC, zg, HBa⟩
  case round =>
    obtain ⟨i, rfl, rfl, him, cR, zr, hbr⟩ := hrel
    clear cC zg HBa
    by_cases hi : i < m
    · have e0 := cR (i * 6) (by omega)
      have e1 := cR (i * 6 + 1) (by omega)
      have e2 := cR (i * 6 + 2) (by omega)
      have e3 := cR (i * 6 + 3) (by omega)
      have e4 := cR (i * 6 + 4) (by omega)
      have e5 := cR (i * 6 + 5) (by omega)
      have zi : (i : Int) < (m : Int) := by omega
      have A0 := HV.out i hi
      have CR := Lib.hid cR
      clear cR HV hi
      generalize C (i * 6) = c0 at *
      generalize C (i * 6 + 1) = c1 at *
      generalize C (i * 6 + 2) = c2 at *
      generalize C (i * 6 + 3) = c3 at *
      generalize C (i * 6 + 4) = c4 at *
      generalize C (i * 6 + 5) = c5 at *
      go_wp2_with fail
      with_reducible refine (A0 _).mono ?_
      rintro e v0 ⟨rfl, hb⟩
      obtain ⟨l0, d0, rfl⟩ := toExt hb
      clear hb
      go_wp2
      go_roundg (m - (i + 1))
      case measure => omega
      case rel => exact ⟨i + 1, by omega, by go_num, by omega, by (repeat (first | with_reducible exact CR.out | with_reducible refine cs_drewN ?_ | with_reducible refine cs_drew ?_ | with_reducible refine cs_ext ?_ (by first | omega | (simp [ext_size, World.setCell] <;> omega)) _ _ | with_reducible refine cs_alloc _ ?_ (by first | omega | (simp [ext_size, World.setCell] <;> omega)) | with_reducible refine cs_up ?_ (by decide) | with_reducible refine cs_set _ ?_ (by first | omega | (simp <;> omega)))), by (first | omega | (simp [ext_size, World.setCell] <;> omega)), by (repeat (first | with_reducible exact hbr | (with_reducible refine bext ?_ _ _) | (with_reducible refine below_drewN ?_ _) | (with_reducible refine Below.drew ?_) | (with_reducible refine bal ?_ _) | (with_reducible refine bset ?_ (by first | omega | (simp <;> omega)) _)))⟩
    · have zi : ¬ (i : Int) < (m : Int) := by omega
      clear HV cR
      go_wp2
      go_ret
      exact ⟨rfl, by (repeat (first | with_reducible exact hbr | (with_reducible refine bext ?_ _ _) | (with_reducible refine below_drewN ?_ _) | (with_reducible refine Below.drew ?_) | (with_reducible refine bal ?_ _) | (with_reducible refine bset ?_ (by first | omega | (simp <;> omega)) _)))⟩
end Go.Proofs.Ytdolfdmgdknboaa
namespace Go.Proofs.Ytdolfdmgdknboaa
open Go.RowKit
set_option linter.unusedVariables false
set_option linter.unusedSimpArgs false

theorem take2g {ops : Array Oper} {Q : Exit → Act → World → Prop} {md : Region.Mode} {S : World → Prop} {fuel : Nat} {listed : Array Bool} {a : Act} {w : World} (i : Nat) {oi : Oper} (x : Operand) (b : Nat) (N : Nat → Int) (hi : ops[i]? = some oi) (ho : oi.op = .load 52 x)
    (hs : Region.noSelect ops = true) (hf : Region.free md ops listed i = true) (hr : (Region.ready md ops listed).contains i = true)
    (hQ : ∀ c a w, Q (.panic c) (a.put oi.dst (.agg #[.int .i64 (N 0), .int .i64 (N 1)])) w → Q (.panic c) a w) (hw : Region.wanted oi (yielded ops a.tmps) = true) (hx : a.eval x = .pointer (some ⟨b, 0, none⟩)) (hc : ∀ w, S w → Cs w b 2 N) (hS : S w)
    (h : wpAnyH Try.prog md ops Q S fuel (listed.setIfInBounds i true) (a.put oi.dst (.agg #[.int .i64 (N 0), .int .i64 (N 1)])) w) : wpAnyH Try.prog md ops Q S (fuel + 1) listed a w :=
  wpAnyH_take hi hs hf hr hQ (yieldsIf_load_mid hw 52 x ho b 0 hx [.int .i64 (N 0), .int .i64 (N 1)] _ (fun w k => range2 (hc w k)) Try.underlying52 rfl (by kernel_rfl)) hS h
set_option maxRecDepth 100000 in
set_option maxHeartbeats 3200000 in
theorem geo_meridian (A B n d nn dd u v b2 b3 x z x1 x2 ex z1 z2 ez : Int) (m1 : IntKind.i64.wrap (n * n) = nn) (m2 : IntKind.i64.wrap (d * d) = dd) (m3 : IntKind.i64.wrap (dd - nn) = u) (m4 : IntKind.i64.wrap (A * u) = x) (m5 : IntKind.i64.wrap (dd + nn) = v)
    (m6 : IntKind.i64.wrap (B * 2) = b2) (m7 : IntKind.i64.wrap (b2 * n) = b3) (m8 : IntKind.i64.wrap (b3 * d) = z) (M1 : ∀ w : World, Calls Try.prog 108 #[.int .i64 x, .int .i64 v] w fun x w' => x = .returned (.tuple #[.agg #[.int .i64 x1, .int .i64 x2], .int .i64 ex]) ∧ Below w.heap.size w w') (M2 : ∀ w : World, Calls Try.prog 108 #[.int .i64 z, .int .i64 v] w fun x w' => x = .returned (.tuple #[.agg #[.int .i64 z1, .int .i64 z2], .int .i64 ez]) ∧ Below w.heap.size w w') (w : World) :
    Calls Try.prog 69 #[.agg #[.int .i64 A, .int .i64 B], .agg #[.int .i64 n, .int .i64 d]] w fun x w' => x = .returned (.agg #[.int .i64 x1, .int .i64 x2, .int .i64 0, .int .i64 1, .int .i64 z1, .int .i64 z2]) ∧ Below w.heap.size w w' := by
  have W0 := fun w => geo_whole 0 w
  have dAl := dAl; have dSt := dSt
  go_enter Try.func69, Try.ntmps69
  go_upto_region 1 with fail
  refine opq (fun wx => Cs wx (w.heap.size) 2 (fg2 A B) ∧ Cs wx (w.heap.size + 1) 2 (fg2 n d) ∧ Cs wx (w.heap.size + 1 + 1) 6 (fun _ => 0) ∧ Fs wx (w.heap.size + 1 + 1) 6 ∧ w.heap.size + 1 + 1 < wx.heap.size ∧ Below w.heap.size w wx) ?_ ?_
  · exact ⟨cs_alloc _ (cs_alloc _ (cs_new (by simp) (arg2 A B)) (by simp <;> omega)) (by simp <;> omega), cs_alloc _ (cs_new (by simp) (arg2 n d)) (by simp <;> omega), cs_new (by simp) (arr06), fs_new (by simp), by simp, by (repeat (first | with_reducible exact b0 _ | (with_reducible refine bext ?_ _ _) | (with_reducible refine below_drewN ?_ _) | (with_reducible refine Below.drew ?_) | (with_reducible refine bal ?_ _)))⟩
  rintro w0 ⟨c0, c1, c2, f2, zs, HBa⟩
  have i0 : fg2 A B 0 = A := rfl
  have i1 : fg2 A B 1 = B := rfl
  have i2 : fg2 n d 0 = n := rfl
  have i3 : fg2 n d 1 = d := rfl
  have hc0 : ∀ o, o < 2 → w0.cell? ⟨w.heap.size, o, none⟩ = some (.int .i64 ((fg2 A B) o)) := c0
  have hc1 : ∀ o, o < 2 → w0.cell? ⟨w.heap.size + 1, o, none⟩ = some (.int .i64 ((fg2 n d) o)) := c1
  have hc2 : ∀ o, o < 6 → w0.cell? ⟨w.heap.size + 1 + 1, o, none⟩ = some (.int .i64 ((fun _ => 0) o)) := c2
  have hf2 : ∀ o, o < 6 → w0.frozen? ⟨w.heap.size + 1 + 1, o, none⟩ = false := f2
  go_quiet (fail)
  go_upto_region 2 with fail
  clear hc0 hc1 hc2 hf2
  refine opq (fun wx => Cs wx (w.heap.size) 2 (fg2 A B) ∧ Cs wx (w.heap.size + 1) 2 (fg2 n d) ∧ Cs wx (w.heap.size + 1 + 1) 6 (fun _ => 0) ∧ Fs wx (w.heap.size + 1 + 1) 6 ∧ w.heap.size + 1 + 1 < wx.heap.size ∧ Below w.heap.size w wx) ?_ ?_
  · exact ⟨by (repeat (first | with_reducible exact c0 | with_reducible refine cs_drewN ?_ | with_reducible refine cs_drew ?_ | with_reducible refine cs_ext ?_ (by first | omega | (simp [ext_size, World.setCell] <;> omega)) _ _ | with_reducible refine cs_alloc _ ?_ (by first | omega | (simp [ext_size, World.setCell] <;> omega)) | with_reducible refine cs_up ?_ (by decide) | with_reducible refine cs_set _ ?_ (by first | omega | (simp <;> omega)))), by (repeat (first | with_reducible exact c1 | with_reducible refine cs_drewN ?_ | with_reducible refine cs_drew ?_ | with_reducible refine cs_ext ?_ (by first | omega | (simp [ext_size, World.setCell] <;> omega)) _ _ | with_reducible refine cs_alloc _ ?_ (by first | omega | (simp [ext_size, World.setCell] <;> omega)) | with_reducible refine cs_up ?_ (by decide) | with_reducible refine cs_set _ ?_ (by first | omega | (simp <;> omega)))), by (repeat (first | with_reducible exact c2 | with_reducible refine cs_drewN ?_ | with_reducible refine cs_drew ?_ | with_reducible refine cs_ext ?_ (by first | omega | (simp [ext_size, World.setCell] <;> omega)) _ _ | with_reducible refine cs_alloc _ ?_ (by first | omega | (simp [ext_size, World.setCell] <;> omega)) | with_reducible refine cs_up ?_ (by decide) | with_reducible refine cs_set _ ?_ (by first | omega | (simp <;> omega)))), by (repeat (first | with_reducible exact f2 | with_reducible refine fs_drewN ?_ | with_reducible refine fs_drew ?_ | with_reducible refine fs_ext ?_ (by first | omega | (simp [ext_size, World.setCell] <;> omega)) _ _ | with_reducible refine fs_alloc _ ?_ (by first | omega | (simp [ext_size, World.setCell] <;> omega)) | with_reducible refine fs_set _ ?_)), zs, by (repeat (first | with_reducible exact HBa | (with_reducible refine bextm ?_ (by first | omega | (simp [ext_size, World.setCell] <;> omega)) _ _) | (with_reducible refine below_drewN ?_ _) | (with_reducible refine Below.drew ?_) | (with_reducible refine Below.alloc ?_ (by first | omega | (simp [ext_size, World.setCell] <;> omega)) _) | (with_reducible refine Below.setCell ?_ (by first | omega | (simp [ext_size, World.setCell] <;> omega)) _)))⟩
  clear c0 c1 c2 f2 zs HBa
  rintro u1 ⟨c0, c1, c2, f2, zs, HBa⟩
  have hc0 : ∀ o, o < 2 → u1.cell? ⟨w.heap.size, o, none⟩ = some (.int .i64 ((fg2 A B) o)) := c0
  have hc1 : ∀ o, o < 2 → u1.cell? ⟨w.heap.size + 1, o, none⟩ = some (.int .i64 ((fg2 n d) o)) := c1
  have hc2 : ∀ o, o < 6 → u1.cell? ⟨w.heap.size + 1 + 1, o, none⟩ = some (.int .i64 ((fun _ => 0) o)) := c2
  have hf2 : ∀ o, o < 6 → u1.frozen? ⟨w.heap.size + 1 + 1, o, none⟩ = false := f2
  go_wp2_with fail
  with_reducible refine (M1 _).mono ?_
  rintro e v2 ⟨rfl, hb⟩
  clear hc0 hc1 hc2 hf2
  replace c0 := cs_below c0 hb (by omega)
  replace c1 := cs_below c1 hb (by omega)
  replace c2 := cs_below c2 hb (by omega)
  replace f2 := fs_below f2 hb (by omega)
  replace HBa := HBa.trans (hb.mono (by first | omega | exact HBa.size))
  replace zs := Nat.lt_of_lt_of_le zs hb.size
  clear hb
  have hc0 : ∀ o, o < 2 → v2.cell? ⟨w.heap.size, o, none⟩ = some (.int .i64 ((fg2 A B) o)) := c0
  have hc1 : ∀ o, o < 2 → v2.cell? ⟨w.heap.size + 1, o, none⟩ = some (.int .i64 ((fg2 n d) o)) := c1
  have hc2 : ∀ o, o < 6 → v2.cell? ⟨w.heap.size + 1 + 1, o, none⟩ = some (.int .i64 ((fun _ => 0) o)) := c2
  have hf2 : ∀ o, o < 6 → v2.frozen? ⟨w.heap.size + 1 + 1, o, none⟩ = false := f2
  go_upto_region 3 with fail
  clear hc0 hc1 hc2 hf2
  have zb := HBa.size
  refine opq (fun wx => Cs wx (w.heap.size) 2 (fg2 A B) ∧ Cs wx (w.heap.size + 1) 2 (fg2 n d) ∧ Cs wx (w.heap.size + 1 + 1) 6 (fun _ => 0) ∧ Fs wx (w.heap.size + 1 + 1) 6 ∧ Cs wx (v2.heap.size) 2 (fg2 x1 x2) ∧ v2.heap.size < wx.heap.size ∧ Below w.heap.size w wx) ?_ ?_
  · exact ⟨by (repeat (first | with_reducible exact c0 | with_reducible refine cs_drewN ?_ | with_reducible refine cs_drew ?_ | with_reducible refine cs_ext ?_ (by first | omega | (simp [ext_size, World.setCell] <;> omega)) _ _ | with_reducible refine cs_alloc _ ?_ (by first | omega | (simp [ext_size, World.setCell] <;> omega)) | with_reducible refine cs_up ?_ (by decide) | with_reducible refine cs_set _ ?_ (by first | omega | (simp <;> omega)))), by (repeat (first | with_reducible exact c1 | with_reducible refine cs_drewN ?_ | with_reducible refine cs_drew ?_ | with_reducible refine cs_ext ?_ (by first | omega | (simp [ext_size, World.setCell] <;> omega)) _ _ | with_reducible refine cs_alloc _ ?_ (by first | omega | (simp [ext_size, World.setCell] <;> omega)) | with_reducible refine cs_up ?_ (by decide) | with_reducible refine cs_set _ ?_ (by first | omega | (simp <;> omega)))), by (repeat (first | with_reducible exact c2 | with_reducible refine cs_drewN ?_ | with_reducible refine cs_drew ?_ | with_reducible refine cs_ext ?_ (by first | omega | (simp [ext_size, World.setCell] <;> omega)) _ _ | with_reducible refine cs_alloc _ ?_ (by first | omega | (simp [ext_size, World.setCell] <;> omega)) | with_reducible refine cs_up ?_ (by decide) | with_reducible refine cs_set _ ?_ (by first | omega | (simp <;> omega)))), by (repeat (first | with_reducible exact f2 | with_reducible refine fs_drewN ?_ | with_reducible refine fs_drew ?_ | with_reducible refine fs_ext ?_ (by first | omega | (simp [ext_size, World.setCell] <;> omega)) _ _ | with_reducible refine fs_alloc _ ?_ (by first | omega | (simp [ext_size, World.setCell] <;> omega)) | with_reducible refine fs_set _ ?_)), by (intro o ho; rcases (show o = 0 ∨ o = 1 by omega) with rfl | rfl <;> (simp (maxDischargeDepth := 8) [fg2, fg6, go_sem, World.cell?_alloc_past, ltk2, ltk3, ltk4, ltk5])), by (simp [World.setCell] <;> omega), by (repeat (first | with_reducible exact HBa | (with_reducible refine bextm ?_ (by first | omega | (simp [ext_size, World.setCell] <;> omega)) _ _) | (with_reducible refine below_drewN ?_ _) | (with_reducible refine Below.drew ?_) | (with_reducible refine Below.alloc ?_ (by first | omega | (simp [ext_size, World.setCell] <;> omega)) _) | (with_reducible refine Below.setCell ?_ (by first | omega | (simp [ext_size, World.setCell] <;> omega)) _)))⟩
  have y3 := zs
  clear c0 c1 c2 f2 HBa zb zs
  generalize hq : v2.heap.size = q2 at *
  clear hq
  rintro u3 ⟨c0, c1, c2, f2, d0, zn, HBa⟩
  have zs := zn
  clear zn
  have hc0 : ∀ o, o < 2 → u3.cell? ⟨w.heap.size, o, none⟩ = some (.int .i64 ((fg2 A B) o)) := c0
  have hc1 : ∀ o, o < 2 → u3.cell? ⟨w.heap.size + 1, o, none⟩ = some (.int .i64 ((fg2 n d) o)) := c1
  have hc2 : ∀ o, o < 6 → u3.cell? ⟨w.heap.size + 1 + 1, o, none⟩ = some (.int .i64 ((fun _ => 0) o)) := c2
  have hf2 : ∀ o, o < 6 → u3.frozen? ⟨w.heap.size + 1 + 1, o, none⟩ = false := f2
  have hd0 : ∀ o, o < 2 → u3.cell? ⟨q2, o, none⟩ = some (.int .i64 ((fg2 x1 x2) o)) := d0
  go_wp2_with fail
  with_reducible refine (M2 _).mono ?_
  rintro e v4 ⟨rfl, hb⟩
  clear hc0 hc1 hc2 hf2 hd0
  replace c0 := cs_below c0 hb (by omega)
  replace c1 := cs_below c1 hb (by omega)
  replace c2 := cs_below c2 hb (by omega)
  replace f2 := fs_below f2 hb (by omega)
  replace d0 := cs_below d0 hb (by omega)
  replace HBa := HBa.trans (hb.mono (by first | omega | exact HBa.size))
  replace zs := Nat.lt_of_lt_of_le zs hb.size
  clear hb
  have hc0 : ∀ o, o < 2 → v4.cell? ⟨w.heap.size, o, none⟩ = some (.int .i64 ((fg2 A B) o)) := c0
  have hc1 : ∀ o, o < 2 → v4.cell? ⟨w.heap.size + 1, o, none⟩ = some (.int .i64 ((fg2 n d) o)) := c1
  have hc2 : ∀ o, o < 6 → v4.cell? ⟨w.heap.size + 1 + 1, o, none⟩ = some (.int .i64 ((fun _ => 0) o)) := c2
  have hf2 : ∀ o, o < 6 → v4.frozen? ⟨w.heap.size + 1 + 1, o, none⟩ = false := f2
  have hd0 : ∀ o, o < 2 → v4.cell? ⟨q2, o, none⟩ = some (.int .i64 ((fg2 x1 x2) o)) := d0
  go_upto_region 4 with fail
  clear hc0 hc1 hc2 hf2 hd0
  have zb := HBa.size
  refine opq (fun wx => Cs wx (w.heap.size) 2 (fg2 A B) ∧ Cs wx (w.heap.size + 1) 2 (fg2 n d) ∧ Cs wx (w.heap.size + 1 + 1) 6 (fun _ => 0) ∧ Fs wx (w.heap.size + 1 + 1) 6 ∧ Cs wx (q2) 2 (fg2 x1 x2) ∧ Cs wx (v4.heap.size) 2 (fg2 z1 z2) ∧ v4.heap.size < wx.heap.size ∧ Below w.heap.size w wx) ?_ ?_
  · exact ⟨by (repeat (first | with_reducible exact c0 | with_reducible refine cs_drewN ?_ | with_reducible refine cs_drew ?_ | with_reducible refine cs_ext ?_ (by first | omega | (simp [ext_size, World.setCell] <;> omega)) _ _ | with_reducible refine cs_alloc _ ?_ (by first | omega | (simp [ext_size, World.setCell] <;> omega)) | with_reducible refine cs_up ?_ (by decide) | with_reducible refine cs_set _ ?_ (by first | omega | (simp <;> omega)))), by (repeat (first | with_reducible exact c1 | with_reducible refine cs_drewN ?_ | with_reducible refine cs_drew ?_ | with_reducible refine cs_ext ?_ (by first | omega | (simp [ext_size, World.setCell] <;> omega)) _ _ | with_reducible refine cs_alloc _ ?_ (by first | omega | (simp [ext_size, World.setCell] <;> omega)) | with_reducible refine cs_up ?_ (by decide) | with_reducible refine cs_set _ ?_ (by first | omega | (simp <;> omega)))), by (repeat (first | with_reducible exact c2 | with_reducible refine cs_drewN ?_ | with_reducible refine cs_drew ?_ | with_reducible refine cs_ext ?_ (by first | omega | (simp [ext_size, World.setCell] <;> omega)) _ _ | with_reducible refine cs_alloc _ ?_ (by first | omega | (simp [ext_size, World.setCell] <;> omega)) | with_reducible refine cs_up ?_ (by decide) | with_reducible refine cs_set _ ?_ (by first | omega | (simp <;> omega)))), by (repeat (first | with_reducible exact f2 | with_reducible refine fs_drewN ?_ | with_reducible refine fs_drew ?_ | with_reducible refine fs_ext ?_ (by first | omega | (simp [ext_size, World.setCell] <;> omega)) _ _ | with_reducible refine fs_alloc _ ?_ (by first | omega | (simp [ext_size, World.setCell] <;> omega)) | with_reducible refine fs_set _ ?_)), by (repeat (first | with_reducible exact d0 | with_reducible refine cs_drewN ?_ | with_reducible refine cs_drew ?_ | with_reducible refine cs_ext ?_ (by first | omega | (simp [ext_size, World.setCell] <;> omega)) _ _ | with_reducible refine cs_alloc _ ?_ (by first | omega | (simp [ext_size, World.setCell] <;> omega)) | with_reducible refine cs_up ?_ (by decide) | with_reducible refine cs_set _ ?_ (by first | omega | (simp <;> omega)))), by (intro o ho; rcases (show o = 0 ∨ o = 1 by omega) with rfl | rfl <;> (simp (maxDischargeDepth := 8) [fg2, fg6, go_sem, World.cell?_alloc_past, ltk2, ltk3, ltk4, ltk5])), by (simp [World.setCell] <;> omega), by (repeat (first | with_reducible exact HBa | (with_reducible refine bextm ?_ (by first | omega | (simp [ext_size, World.setCell] <;> omega)) _ _) | (with_reducible refine below_drewN ?_ _) | (with_reducible refine Below.drew ?_) | (with_reducible refine Below.alloc ?_ (by first | omega | (simp [ext_size, World.setCell] <;> omega)) _) | (with_reducible refine Below.setCell ?_ (by first | omega | (simp [ext_size, World.setCell] <;> omega)) _)))⟩
  have y5 := zs
  clear c0 c1 c2 f2 d0 HBa zb zs
  generalize hq : v4.heap.size = q4 at *
  clear hq
  rintro u5 ⟨c0, c1, c2, f2, d0, e0, zn, HBa⟩
  have zs := zn
  clear zn
  have zz5 : w.heap.size + 1 + 1 < u5.heap.size := by omega
  have zz2 : w.heap.size + 1 + 1 ≤ u5.heap.size := by omega
  have zz7 : q2 < u5.heap.size := by omega
  refine wp_region_held_drew (S := (fun w' => Cs w' (q2) 2 (fg2 x1 x2) ∧ Cs w' (q4) 2 (fg2 z1 z2) ∧ Below (w.heap.size + 1 + 1) u5 w')) (by kernel_rfl) ?_ (fun hHeld => ?_)
  · exact ⟨d0, e0, Below.drew (Below.refl _ _)⟩
  refine take2 0 (.tmp 7) q2 (fg2 x1 x2) rfl rfl (by kernel_rfl) (by kernel_rfl) (by kernel_rfl) (fun _ _ _ h => h) (by rfl) rfl (fun w k => k.1) (by assumption) ?_
  try simp only [Act.put, List.setIfInBounds_toArray, List.set_cons_zero, List.set_cons_succ, fg2]
  refine take2 2 (.tmp 9) q4 (fg2 z1 z2) rfl rfl (by kernel_rfl) (by kernel_rfl) (by kernel_rfl) (fun _ _ _ h => h) (by rfl) rfl (fun w k => k.2.1) (by assumption) ?_
  try simp only [Act.put, List.setIfInBounds_toArray, List.set_cons_zero, List.set_cons_succ, fg2]
  refine wpAnyH_ready (rs := [1]) (by kernel_rfl) (by simp) ?_
  refine AllReadyH.cons (o := _) rfl (fun K hK => ?_) AllReadyH.nil
  go_simp
  with_reducible refine (W0 _).mono ?_
  rintro e y1 ⟨rfl, hb⟩
  have hR : ∀ o, o < 6 → y1.cell? ⟨w.heap.size + 1 + 1, o, none⟩ = some (.int .i64 ((fun _ => 0) o)) := cs_below (cs_drew c2) hb zz5
  have hF : ∀ o, o < 6 → y1.frozen? ⟨w.heap.size + 1 + 1, o, none⟩ = false := fs_below (fs_drew f2) hb zz5
  replace hHeld : (fun w' => Cs w' (q2) 2 (fg2 x1 x2) ∧ Cs w' (q4) 2 (fg2 z1 z2) ∧ Below (w.heap.size + 1 + 1) u5 w') y1 := ⟨cs_below (And.left hHeld) hb zz7, cs_below (And.left (And.right hHeld)) hb zs, Below.trans (And.right (And.right hHeld)) (Below.mono hb zz2)⟩
  clear hb
  (try go_wp2_with fail)
  refine hK.out _ _ ?_ (fun hHeld2 => ?_)
  · (have hC1 := And.left hHeld; have hC2 := And.left (And.right hHeld); have hB := And.right (And.right hHeld); exact ⟨by (repeat (first | with_reducible exact hC1 | with_reducible refine cs_drewN ?_ | with_reducible refine cs_drew ?_ | with_reducible refine cs_ext ?_ (by first | omega | (simp [ext_size, World.setCell] <;> omega)) _ _ | with_reducible refine cs_alloc _ ?_ (by first | omega | (simp [ext_size, World.setCell] <;> omega)) | with_reducible refine cs_up ?_ (by decide) | with_reducible refine cs_set _ ?_ (by first | omega | (simp <;> omega)))), by (repeat (first | with_reducible exact hC2 | with_reducible refine cs_drewN ?_ | with_reducible refine cs_drew ?_ | with_reducible refine cs_ext ?_ (by first | omega | (simp [ext_size, World.setCell] <;> omega)) _ _ | with_reducible refine cs_alloc _ ?_ (by first | omega | (simp [ext_size, World.setCell] <;> omega)) | with_reducible refine cs_up ?_ (by decide) | with_reducible refine cs_set _ ?_ (by first | omega | (simp <;> omega)))), by (repeat (first | with_reducible exact hB | (with_reducible refine bextm ?_ (by first | omega | (simp [ext_size, World.setCell] <;> omega)) _ _) | (with_reducible refine below_drewN ?_ _) | (with_reducible refine Below.drew ?_) | (with_reducible refine Below.alloc ?_ (by first | omega | (simp [ext_size, World.setCell] <;> omega)) _) | (with_reducible refine Below.setCell ?_ (by first | omega | (simp [ext_size, World.setCell] <;> omega)) _)))⟩)
  clear hK K hHeld
  have hHeld := hHeld2
  clear hHeld2
  try simp only [Act.put, List.setIfInBounds_toArray, List.set_cons_zero, List.set_cons_succ, fg2]
  refine wpAnyH_take (i := 3) (oi := _) (v := ?_) rfl (by kernel_rfl) (by kernel_rfl) (by kernel_rfl) (fun _ _ _ h => h) (Or.inl ⟨by rfl, ?_⟩) (by assumption) ?_
  rotate_left
  · (intro w hSw; (try dsimp only at hSw); go_simp; (try with_reducible rfl))
  try simp only [Act.put, List.setIfInBounds_toArray, List.set_cons_zero, List.set_cons_succ, fg2]
  refine wpAnyH_ready (rs := [4]) (by kernel_rfl) (by simp) ?_
  refine AllReadyH.cons (o := _) rfl (fun K hK => ?_) AllReadyH.nil
  go_simp
  refine hK.out _ _ ?_ (fun hHeld2 => ?_)
  · (have hC1 := And.left hHeld; have hC2 := And.left (And.right hHeld); have hB := And.right (And.right hHeld); exact ⟨by (repeat (first | with_reducible exact hC1 | with_reducible refine cs_drewN ?_ | with_reducible refine cs_drew ?_ | with_reducible refine cs_ext ?_ (by first | omega | (simp [ext_size, World.setCell] <;> omega)) _ _ | with_reducible refine cs_alloc _ ?_ (by first | omega | (simp [ext_size, World.setCell] <;> omega)) | with_reducible refine cs_up ?_ (by decide) | with_reducible refine cs_set _ ?_ (by first | omega | (simp <;> omega)))), by (repeat (first | with_reducible exact hC2 | with_reducible refine cs_drewN ?_ | with_reducible refine cs_drew ?_ | with_reducible refine cs_ext ?_ (by first | omega | (simp [ext_size, World.setCell] <;> omega)) _ _ | with_reducible refine cs_alloc _ ?_ (by first | omega | (simp [ext_size, World.setCell] <;> omega)) | with_reducible refine cs_up ?_ (by decide) | with_reducible refine cs_set _ ?_ (by first | omega | (simp <;> omega)))), by (repeat (first | with_reducible exact hB | (with_reducible refine bextm ?_ (by first | omega | (simp [ext_size, World.setCell] <;> omega)) _ _) | (with_reducible refine below_drewN ?_ _) | (with_reducible refine Below.drew ?_) | (with_reducible refine Below.alloc ?_ (by first | omega | (simp [ext_size, World.setCell] <;> omega)) _) | (with_reducible refine Below.setCell ?_ (by first | omega | (simp [ext_size, World.setCell] <;> omega)) _)))⟩)
  clear hK K hHeld
  have hHeld := hHeld2
  clear hHeld2
  try simp only [Act.put, List.setIfInBounds_toArray, List.set_cons_zero, List.set_cons_succ, fg2]
  refine wpAnyH_done (by kernel_rfl) ?_ _
  go_wp2
  refine bodyPost_ret (by simp [results, Try.results69, go_sem, ext_cell, World.cell?_alloc_past, ltk2, ltk3, ltk4, ltk5, ltk6, ltk7, ltk8, ltk9, *]; try rfl) rfl ?_
  exact ⟨rfl, HBa.trans (Below.mono (And.right (And.right hHeld)) (by omega))⟩
set_option maxRecDepth 100000 in
set_option maxHeartbeats 3200000 in
theorem geo_At (T M R : Nat → Int) (A B n d s t d' et e : Int) (m1 : IntKind.i64.wrap (-d) = d') (g1 : (n < d') = False) (g2 : (d < n) = False) (CG : ∀ w : World, Calls Try.prog 28 #[.agg #[.int .i64 A, .int .i64 B]] w fun x w' => x = .returned (.int .i64 0) ∧ Below w.heap.size w w') (I1 : ∀ w : World, Calls Try.prog 68 #[.agg #[.int .i64 n, .int .i64 d]] w fun x w' => x = .returned (.bool true) ∧ Below w.heap.size w w') (I2 : ∀ w : World, Calls Try.prog 68 #[.agg #[.int .i64 s, .int .i64 t]] w fun x w' => x = .returned (.bool true) ∧ Below w.heap.size w w') (TU : ∀ w : World, Calls Try.prog 18 #[.int .i64 2, .agg #[.int .i64 s, .int .i64 t]] w fun x w' => x = .returned (.tuple #[.agg #[.int .i64 (T 0), .int .i64 (T 1), .int .i64 (T 2), .int .i64 (T 3), .int .i64 (T 4), .int .i64 (T 5), .int .i64 (T 6), .int .i64 (T 7), .int .i64 (T 8), .int .i64 (T 9), .int .i64 (T 10), .int .i64 (T 11), .int .i64 (T 12), .int .i64 (T 13), .int .i64 (T 14), .int .i64 (T 15), .int .i64 (T 16), .int .i64 (T 17)], .int .i64 et]) ∧ Below w.heap.size w w') (ME : ∀ w : World, Calls Try.prog 69 #[.agg #[.int .i64 A, .int .i64 B], .agg #[.int .i64 n, .int .i64 d]] w fun x w' => x = .returned (.agg #[.int .i64 (M 0), .int .i64 (M 1), .int .i64 (M 2), .int .i64 (M 3), .int .i64 (M 4), .int .i64 (M 5)]) ∧ Below w.heap.size w w') (AP : ∀ w : World, Calls Try.prog 10 #[.agg #[.int .i64 (T 0), .int .i64 (T 1), .int .i64 (T 2), .int .i64 (T 3), .int .i64 (T 4), .int .i64 (T 5), .int .i64 (T 6), .int .i64 (T 7), .int .i64 (T 8), .int .i64 (T 9), .int .i64 (T 10), .int .i64 (T 11), .int .i64 (T 12), .int .i64 (T 13), .int .i64 (T 14), .int .i64 (T 15), .int .i64 (T 16), .int .i64 (T 17)], .agg #[.int .i64 (M 0), .int .i64 (M 1), .int .i64 (M 2), .int .i64 (M 3), .int .i64 (M 4), .int .i64 (M 5)]] w fun x w' => x = .returned (.tuple #[.agg #[.int .i64 (R 0), .int .i64 (R 1), .int .i64 (R 2), .int .i64 (R 3), .int .i64 (R 4), .int .i64 (R 5)], .int .i64 e]) ∧ Below w.heap.size w w') (w : World) :
    Calls Try.prog 22 #[.agg #[.int .i64 A, .int .i64 B], .agg #[.int .i64 n, .int .i64 d], .agg #[.int .i64 s, .int .i64 t]] w fun x w' => x = .returned (.tuple #[.agg #[.int .i64 (R 0), .int .i64 (R 1), .int .i64 (R 2), .int .i64 (R 3), .int .i64 (R 4), .int .i64 (R 5)], .int .i64 e]) ∧ Below w.heap.size w w' := by
  have dAl := dAl; have dSt := dSt
  go_enter Try.func22, Try.ntmps22
  go_upto_region 1 with fail
  refine opq (fun wx => Cs wx (w.heap.size) 2 (fg2 A B) ∧ Cs wx (w.heap.size + 1) 2 (fg2 n d) ∧ Cs wx (w.heap.size + 1 + 1) 2 (fg2 s t) ∧ Cs wx (w.heap.size + 1 + 1 + 1) 6 (fun _ => 0) ∧ Fs wx (w.heap.size + 1 + 1 + 1) 6 ∧ w.heap.size + 1 + 1 + 1 < wx.heap.size ∧ Below w.heap.size w wx) ?_ ?_
  · exact ⟨cs_alloc _ (cs_alloc _ (cs_alloc _ (cs_new (by simp) (arg2 A B)) (by simp <;> omega)) (by simp <;> omega)) (by simp <;> omega), cs_alloc _ (cs_alloc _ (cs_new (by simp) (arg2 n d)) (by simp <;> omega)) (by simp <;> omega), cs_alloc _ (cs_new (by simp) (arg2 s t)) (by simp <;> omega), cs_new (by simp) (arr06), fs_new (by simp), by simp, by (repeat (first | with_reducible exact b0 _ | (with_reducible refine bext ?_ _ _) | (with_reducible refine below_drewN ?_ _) | (with_reducible refine Below.drew ?_) | (with_reducible refine bal ?_ _)))⟩
  rintro w0 ⟨c0, c1, c2, c3, f3, zs, HBa⟩
  have i0 : fg2 A B 0 = A := rfl
  have i1 : fg2 A B 1 = B := rfl
  have i2 : fg2 n d 0 = n := rfl
  have i3 : fg2 n d 1 = d := rfl
  have j0 : fg2 s t 0 = s := rfl
  have j1 : fg2 s t 1 = t := rfl
  have hc0 : ∀ o, o < 2 → w0.cell? ⟨w.heap.size, o, none⟩ = some (.int .i64 ((fg2 A B) o)) := c0
  have hc1 : ∀ o, o < 2 → w0.cell? ⟨w.heap.size + 1, o, none⟩ = some (.int .i64 ((fg2 n d) o)) := c1
  have hc2 : ∀ o, o < 2 → w0.cell? ⟨w.heap.size + 1 + 1, o, none⟩ = some (.int .i64 ((fg2 s t) o)) := c2
  have hc3 : ∀ o, o < 6 → w0.cell? ⟨w.heap.size + 1 + 1 + 1, o, none⟩ = some (.int .i64 ((fun _ => 0) o)) := c3
  have hf3 : ∀ o, o < 6 → w0.frozen? ⟨w.heap.size + 1 + 1 + 1, o, none⟩ = false := f3
  go_wp2_with fail
  with_reducible refine (CG _).mono ?_
  rintro e v1 ⟨rfl, hb⟩
  clear hc0 hc1 hc2 hc3 hf3
  replace c0 := cs_below c0 hb (by omega)
  replace c1 := cs_below c1 hb (by omega)
  replace c2 := cs_below c2 hb (by omega)
  replace c3 := cs_below c3 hb (by omega)
  replace f3 := fs_below f3 hb (by omega)
  replace HBa := HBa.trans (hb.mono (by first | omega | exact HBa.size))
  replace zs := Nat.lt_of_lt_of_le zs hb.size
  clear hb
  have hc0 : ∀ o, o < 2 → v1.cell? ⟨w.heap.size, o, none⟩ = some (.int .i64 ((fg2 A B) o)) := c0
  have hc1 : ∀ o, o < 2 → v1.cell? ⟨w.heap.size + 1, o, none⟩ = some (.int .i64 ((fg2 n d) o)) := c1
  have hc2 : ∀ o, o < 2 → v1.cell? ⟨w.heap.size + 1 + 1, o, none⟩ = some (.int .i64 ((fg2 s t) o)) := c2
  have hc3 : ∀ o, o < 6 → v1.cell? ⟨w.heap.size + 1 + 1 + 1, o, none⟩ = some (.int .i64 ((fun _ => 0) o)) := c3
  have hf3 : ∀ o, o < 6 → v1.frozen? ⟨w.heap.size + 1 + 1 + 1, o, none⟩ = false := f3
  go_wp2_with fail
  with_reducible refine (I1 _).mono ?_
  rintro e v2 ⟨rfl, hb⟩
  clear hc0 hc1 hc2 hc3 hf3
  replace c0 := cs_below c0 hb (by omega)
  replace c1 := cs_below c1 hb (by omega)
  replace c2 := cs_below c2 hb (by omega)
  replace c3 := cs_below c3 hb (by omega)
  replace f3 := fs_below f3 hb (by omega)
  replace HBa := HBa.trans (hb.mono (by first | omega | exact HBa.size))
  replace zs := Nat.lt_of_lt_of_le zs hb.size
  clear hb
  have hc0 : ∀ o, o < 2 → v2.cell? ⟨w.heap.size, o, none⟩ = some (.int .i64 ((fg2 A B) o)) := c0
  have hc1 : ∀ o, o < 2 → v2.cell? ⟨w.heap.size + 1, o, none⟩ = some (.int .i64 ((fg2 n d) o)) := c1
  have hc2 : ∀ o, o < 2 → v2.cell? ⟨w.heap.size + 1 + 1, o, none⟩ = some (.int .i64 ((fg2 s t) o)) := c2
  have hc3 : ∀ o, o < 6 → v2.cell? ⟨w.heap.size + 1 + 1 + 1, o, none⟩ = some (.int .i64 ((fun _ => 0) o)) := c3
  have hf3 : ∀ o, o < 6 → v2.frozen? ⟨w.heap.size + 1 + 1 + 1, o, none⟩ = false := f3
  go_wp2_with fail
  with_reducible refine (I2 _).mono ?_
  rintro e v3 ⟨rfl, hb⟩
  clear hc0 hc1 hc2 hc3 hf3
  replace c0 := cs_below c0 hb (by omega)
  replace c1 := cs_below c1 hb (by omega)
  replace c2 := cs_below c2 hb (by omega)
  replace c3 := cs_below c3 hb (by omega)
  replace f3 := fs_below f3 hb (by omega)
  replace HBa := HBa.trans (hb.mono (by first | omega | exact HBa.size))
  replace zs := Nat.lt_of_lt_of_le zs hb.size
  clear hb
  have hc0 : ∀ o, o < 2 → v3.cell? ⟨w.heap.size, o, none⟩ = some (.int .i64 ((fg2 A B) o)) := c0
  have hc1 : ∀ o, o < 2 → v3.cell? ⟨w.heap.size + 1, o, none⟩ = some (.int .i64 ((fg2 n d) o)) := c1
  have hc2 : ∀ o, o < 2 → v3.cell? ⟨w.heap.size + 1 + 1, o, none⟩ = some (.int .i64 ((fg2 s t) o)) := c2
  have hc3 : ∀ o, o < 6 → v3.cell? ⟨w.heap.size + 1 + 1 + 1, o, none⟩ = some (.int .i64 ((fun _ => 0) o)) := c3
  have hf3 : ∀ o, o < 6 → v3.frozen? ⟨w.heap.size + 1 + 1 + 1, o, none⟩ = false := f3
  go_upto_region 6 with fail
  go_step
  refine wpList_plain rfl (fun K hK => ?_)
  go_big_op
  refine hK _ _ ?_
  clear hK K
  refine wpList_plain rfl (fun K hK => ?_)
  go_big_op
  with_reducible refine (TU _).mono ?_
  rintro e vt ⟨rfl, hb⟩
  simp only []
  refine hK _ _ ?_
  clear hK K
  clear hc0 hc1 hc2 hc3 hf3
  replace c0 := cs_below c0 hb (by omega)
  replace c1 := cs_below c1 hb (by omega)
  replace c2 := cs_below c2 hb (by omega)
  replace c3 := cs_below c3 hb (by omega)
  replace f3 := fs_below f3 hb (by omega)
  replace HBa := HBa.trans (hb.mono (by first | omega | exact HBa.size))
  replace zs := Nat.lt_of_lt_of_le zs hb.size
  clear hb
  refine wpList_plain rfl (fun K hK => ?_)
  go_big_op
  refine hK _ _ ?_
  clear hK K
  refine wpList_plain rfl (fun K hK => ?_)
  go_big_op
  refine hK _ _ ?_
  clear hK K
  refine wpList_plain rfl (fun K hK => ?_)
  go_big_op
  refine hK _ _ ?_
  clear hK K
  refine wpList_plain rfl (fun K hK => ?_)
  go_big_op
  refine hK _ _ ?_
  clear hK K
  refine store18 (.tmp 9) (.tmp 44) vt.heap.size T (fun _ => 0) (cs_new rfl arr0) (fs_new rfl) rfl rfl rfl rfl ?_
  intro um cm fR sX bX
  have hb := bX vt.heap.size vt (Nat.le_refl _) (bal (b0 _) _)
  have zm : vt.heap.size < um.heap.size := by rw [sX]; simp
  have ym := zs
  replace c0 := cs_below c0 hb (by omega)
  replace c1 := cs_below c1 hb (by omega)
  replace c2 := cs_below c2 hb (by omega)
  replace c3 := cs_below c3 hb (by omega)
  replace f3 := fs_below f3 hb (by omega)
  replace HBa := HBa.trans (hb.mono (by first | omega | exact HBa.size))
  replace zs := Nat.lt_of_lt_of_le zs hb.size
  clear hb
  replace zs := zm
  clear zm bX sX fR
  generalize hq : vt.heap.size = qm at *
  clear hq
  go_upto_region 7 with fail
  have z3 : w.heap.size + 1 + 1 + 1 ≤ um.heap.size := by omega
  have zz5 : w.heap.size + 1 + 1 + 1 < um.heap.size := by omega
  refine wp_region_held_drew (S := (fun w' => Cs w' qm 18 T ∧ Below (w.heap.size + 1 + 1 + 1) um w')) (by kernel_rfl) ?_ (fun hHeld => ?_)
  · exact ⟨cm, Below.drew (Below.refl _ _)⟩
  refine take18 0 (.tmp 9) qm T rfl rfl (by kernel_rfl) (by kernel_rfl) (by kernel_rfl) (fun _ _ _ h => h) (by rfl) rfl (fun w k => k.1) (by assumption) ?_
  try simp only [Act.put, List.setIfInBounds_toArray, List.set_cons_zero, List.set_cons_succ, fg2]
  refine take2g 1 (.tmp 3) w.heap.size (fg2 A B) rfl rfl (by kernel_rfl) (by kernel_rfl) (by kernel_rfl) (fun _ _ _ h => h) (by rfl) rfl (fun w k => cs_below c0 k.2 (by omega)) (by assumption) ?_
  try simp only [Act.put, List.setIfInBounds_toArray, List.set_cons_zero, List.set_cons_succ, fg2]
  refine take2 2 (.tmp 4) (w.heap.size + 1) (fg2 n d) rfl rfl (by kernel_rfl) (by kernel_rfl) (by kernel_rfl) (fun _ _ _ h => h) (by rfl) rfl (fun w k => cs_below c1 k.2 (by omega)) (by assumption) ?_
  try simp only [Act.put, List.setIfInBounds_toArray, List.set_cons_zero, List.set_cons_succ, fg2]
  refine wpAnyH_ready (rs := [3]) (by kernel_rfl) (by simp) ?_
  refine AllReadyH.cons (o := _) rfl (fun K hK => ?_) AllReadyH.nil
  go_simp
  with_reducible refine (ME _).mono ?_
  rintro e y1 ⟨rfl, hb⟩
  have z1 : qm < y1.heap.size := Nat.lt_of_lt_of_le zs hb.size
  have k1 := cs_below (cs_drew c3) hb zz5
  have k2 := fs_below (fs_drew f3) hb zz5
  replace hHeld : (fun w' => Cs w' qm 18 T ∧ Below (w.heap.size + 1 + 1 + 1) um w') y1 := ⟨cs_below (And.left hHeld) hb zs, Below.trans (And.right hHeld) (Below.mono hb z3)⟩
  clear hb
  (try go_wp2_with fail)
  refine hK.out _ _ ?_ (fun hHeld2 => ?_)
  · (have hC1 := And.left hHeld; have hB := And.right hHeld; exact ⟨by (repeat (first | with_reducible exact hC1 | with_reducible refine cs_drewN ?_ | with_reducible refine cs_drew ?_ | with_reducible refine cs_ext ?_ (by first | omega | (simp [ext_size, World.setCell] <;> omega)) _ _ | with_reducible refine cs_alloc _ ?_ (by first | omega | (simp [ext_size, World.setCell] <;> omega)) | with_reducible refine cs_up ?_ (by decide) | with_reducible refine cs_set _ ?_ (by first | omega | (simp <;> omega)))), by (repeat (first | with_reducible exact hB | (with_reducible refine bextm ?_ (by first | omega | (simp [ext_size, World.setCell] <;> omega)) _ _) | (with_reducible refine below_drewN ?_ _) | (with_reducible refine Below.drew ?_) | (with_reducible refine Below.alloc ?_ (by first | omega | (simp [ext_size, World.setCell] <;> omega)) _) | (with_reducible refine Below.setCell ?_ (by first | omega | (simp [ext_size, World.setCell] <;> omega)) _)))⟩)
  clear hK K hHeld
  have hHeld := hHeld2
  clear hHeld2
  try simp only [Act.put, List.setIfInBounds_toArray, List.set_cons_zero, List.set_cons_succ, fg2]
  refine wpAnyH_ready (rs := [4]) (by kernel_rfl) (by simp) ?_
  refine AllReadyH.cons (o := _) rfl (fun K hK => ?_) AllReadyH.nil
  go_simp
  with_reducible refine (AP _).mono ?_
  rintro e y2 ⟨rfl, hb⟩
  have hR : ∀ o, o < 6 → y2.cell? ⟨w.heap.size + 1 + 1 + 1, o, none⟩ = some (.int .i64 ((fun _ => 0) o)) := cs_below k1 hb (by omega)
  have hF : ∀ o, o < 6 → y2.frozen? ⟨w.heap.size + 1 + 1 + 1, o, none⟩ = false := fs_below k2 hb (by omega)
  replace hHeld : (fun w' => Cs w' qm 18 T ∧ Below (w.heap.size + 1 + 1 + 1) um w') y2 := ⟨cs_below (And.left hHeld) hb z1, Below.trans (And.right hHeld) (Below.mono hb (by omega))⟩
  clear hb
  (try go_wp2_with fail)
  refine hK.out _ _ ?_ (fun hHeld2 => ?_)
  · (have hC1 := And.left hHeld; have hB := And.right hHeld; exact ⟨by (repeat (first | with_reducible exact hC1 | with_reducible refine cs_drewN ?_ | with_reducible refine cs_drew ?_ | with_reducible refine cs_ext ?_ (by first | omega | (simp [ext_size, World.setCell] <;> omega)) _ _ | with_reducible refine cs_alloc _ ?_ (by first | omega | (simp [ext_size, World.setCell] <;> omega)) | with_reducible refine cs_up ?_ (by decide) | with_reducible refine cs_set _ ?_ (by first | omega | (simp <;> omega)))), by (repeat (first | with_reducible exact hB | (with_reducible refine bextm ?_ (by first | omega | (simp [ext_size, World.setCell] <;> omega)) _ _) | (with_reducible refine below_drewN ?_ _) | (with_reducible refine Below.drew ?_) | (with_reducible refine Below.alloc ?_ (by first | omega | (simp [ext_size, World.setCell] <;> omega)) _) | (with_reducible refine Below.setCell ?_ (by first | omega | (simp [ext_size, World.setCell] <;> omega)) _)))⟩)
  clear hK K hHeld
  have hHeld := hHeld2
  clear hHeld2
  try simp only [Act.put, List.setIfInBounds_toArray, List.set_cons_zero, List.set_cons_succ, fg2]
  refine wpAnyH_take (i := 5) (oi := _) (v := ?_) rfl (by kernel_rfl) (by kernel_rfl) (by kernel_rfl) (fun _ _ _ h => h) (Or.inl ⟨by rfl, ?_⟩) (by assumption) ?_
  rotate_left
  · (intro w hSw; (try dsimp only at hSw); go_simp; (try with_reducible rfl))
  try simp only [Act.put, List.setIfInBounds_toArray, List.set_cons_zero, List.set_cons_succ, fg2]
  refine wpAnyH_take (i := 6) (oi := _) (v := ?_) rfl (by kernel_rfl) (by kernel_rfl) (by kernel_rfl) (fun _ _ _ h => h) (Or.inl ⟨by rfl, ?_⟩) (by assumption) ?_
  rotate_left
  · (intro w hSw; (try dsimp only at hSw); go_simp; (try with_reducible rfl))
  try simp only [Act.put, List.setIfInBounds_toArray, List.set_cons_zero, List.set_cons_succ, fg2]
  refine wpAnyH_ready (rs := [7]) (by kernel_rfl) (by simp) ?_
  refine AllReadyH.cons (o := _) rfl (fun K hK => ?_) AllReadyH.nil
  go_simp
  refine hK.out _ _ ?_ (fun hHeld2 => ?_)
  · (have hC1 := And.left hHeld; have hB := And.right hHeld; exact ⟨by (repeat (first | with_reducible exact hC1 | with_reducible refine cs_drewN ?_ | with_reducible refine cs_drew ?_ | with_reducible refine cs_ext ?_ (by first | omega | (simp [ext_size, World.setCell] <;> omega)) _ _ | with_reducible refine cs_alloc _ ?_ (by first | omega | (simp [ext_size, World.setCell] <;> omega)) | with_reducible refine cs_up ?_ (by decide) | with_reducible refine cs_set _ ?_ (by first | omega | (simp <;> omega)))), by (repeat (first | with_reducible exact hB | (with_reducible refine bextm ?_ (by first | omega | (simp [ext_size, World.setCell] <;> omega)) _ _) | (with_reducible refine below_drewN ?_ _) | (with_reducible refine Below.drew ?_) | (with_reducible refine Below.alloc ?_ (by first | omega | (simp [ext_size, World.setCell] <;> omega)) _) | (with_reducible refine Below.setCell ?_ (by first | omega | (simp [ext_size, World.setCell] <;> omega)) _)))⟩)
  clear hK K hHeld
  have hHeld := hHeld2
  clear hHeld2
  try simp only [Act.put, List.setIfInBounds_toArray, List.set_cons_zero, List.set_cons_succ, fg2]
  refine wpAnyH_ready (rs := [8]) (by kernel_rfl) (by simp) ?_
  refine AllReadyH.cons (o := _) rfl (fun K hK => ?_) AllReadyH.nil
  go_simp
  refine hK.out _ _ ?_ (fun hHeld2 => ?_)
  · (have hC1 := And.left hHeld; have hB := And.right hHeld; exact ⟨by (repeat (first | with_reducible exact hC1 | with_reducible refine cs_drewN ?_ | with_reducible refine cs_drew ?_ | with_reducible refine cs_ext ?_ (by first | omega | (simp [ext_size, World.setCell] <;> omega)) _ _ | with_reducible refine cs_alloc _ ?_ (by first | omega | (simp [ext_size, World.setCell] <;> omega)) | with_reducible refine cs_up ?_ (by decide) | with_reducible refine cs_set _ ?_ (by first | omega | (simp <;> omega)))), by (repeat (first | with_reducible exact hB | (with_reducible refine bextm ?_ (by first | omega | (simp [ext_size, World.setCell] <;> omega)) _ _) | (with_reducible refine below_drewN ?_ _) | (with_reducible refine Below.drew ?_) | (with_reducible refine Below.alloc ?_ (by first | omega | (simp [ext_size, World.setCell] <;> omega)) _) | (with_reducible refine Below.setCell ?_ (by first | omega | (simp [ext_size, World.setCell] <;> omega)) _)))⟩)
  clear hK K hHeld
  have hHeld := hHeld2
  clear hHeld2
  try simp only [Act.put, List.setIfInBounds_toArray, List.set_cons_zero, List.set_cons_succ, fg2]
  refine wpAnyH_done (by kernel_rfl) ?_ _
  go_wp2
  refine bodyPost_ret (by simp [results, Try.results22, go_sem, ext_cell, World.cell?_alloc_past, ltk2, ltk3, ltk4, ltk5, ltk6, ltk7, ltk8, ltk9, *]; try rfl) rfl ?_
  exact ⟨rfl, HBa.trans (Below.mono (And.right hHeld) (by omega))⟩

end Go.Proofs.Ytdolfdmgdknboaa
