/-
  Package geoid: the ways with an error of compare, Inside, On, mustLie and Side.  GeoidTurned, for all globes, parameters and points.  Package geoid: points of which the last one is none: the check, Inside and Side.  GeoidTouch: the arithmetic of places and their horizons.  GeoidTouch, walked: its calls by contracts.  GeoidTouch: all of it together.
-/
import Derived.Lib.Hide
import Derived.Test.YtdolfdmgdknboaaGA
import Derived.Test.YtdolfdmgdknboaaMA
import Derived.Test.YtdolfdmgdknboaaGE
import Derived.Test.YtdolfdmgdknboaaGpl
import Derived.Test.YtdolfdmgdknboaaGca
import Derived.Deep.DeepCutAuto
namespace Go.Proofs.Ytdolfdmgdknboaa
open Go.RowKit
set_option linter.unusedVariables false
set_option linter.unusedSimpArgs false

set_option maxRecDepth 100000 in
set_option maxHeartbeats 3200000 in
theorem geo_compare_e (P Q : Nat → Int) (N D e : Int) (he : (e == 0) = false) (DT : ∀ w : World, Calls Try.prog 41 #[.agg #[.int .i64 (P 0), .int .i64 (P 1), .int .i64 (P 2), .int .i64 (P 3), .int .i64 (P 4), .int .i64 (P 5)], .agg #[.int .i64 (Q 0), .int .i64 (Q 1), .int .i64 (Q 2), .int .i64 (Q 3), .int .i64 (Q 4), .int .i64 (Q 5)]] w fun x w' => x = .returned (.tuple #[.agg #[.int .i64 N, .int .i64 D], .int .i64 e]) ∧ Below w.heap.size w w') (w : World) :
    Calls Try.prog 73 #[.agg #[.int .i64 (P 0), .int .i64 (P 1), .int .i64 (P 2), .int .i64 (P 3), .int .i64 (P 4), .int .i64 (P 5)], .agg #[.int .i64 (Q 0), .int .i64 (Q 1), .int .i64 (Q 2), .int .i64 (Q 3), .int .i64 (Q 4), .int .i64 (Q 5)]] w fun x w' => x = .returned (.tuple #[.int .i64 0, .int .i64 e]) ∧ Below w.heap.size w w' := by
  have dAl := dAl; have dSt := dSt
  go_enter Try.func73, Try.ntmps73
  go_upto_region 1 with fail
  refine opq (fun wx => Cs wx (w.heap.size) 6 P ∧ Cs wx (w.heap.size + 1) 6 Q ∧ w.heap.size + 1 < wx.heap.size ∧ Below w.heap.size w wx) ?_ ?_
  · exact ⟨cs_alloc _ (cs_new (by simp) (arrV P)) (by simp <;> omega), cs_new (by simp) (arrV Q), by simp, by (repeat (first | with_reducible exact b0 _ | (with_reducible refine bext ?_ _ _) | (with_reducible refine below_drewN ?_ _) | (with_reducible refine Below.drew ?_) | (with_reducible refine bal ?_ _)))⟩
  rintro w0 ⟨c0, c1, zs, HBa⟩
  have hc0 : ∀ o, o < 6 → w0.cell? ⟨w.heap.size, o, none⟩ = some (.int .i64 (P o)) := c0
  have hc1 : ∀ o, o < 6 → w0.cell? ⟨w.heap.size + 1, o, none⟩ = some (.int .i64 (Q o)) := c1
  go_wp2_with fail
  with_reducible refine (DT _).mono ?_
  rintro e v1 ⟨rfl, hb⟩
  clear hc0 hc1
  replace c0 := cs_below c0 hb (by omega)
  replace c1 := cs_below c1 hb (by omega)
  replace HBa := HBa.trans (hb.mono (by first | omega | exact HBa.size))
  replace zs := Nat.lt_of_lt_of_le zs hb.size
  clear hb
  clear c0
  clear c1
  go_wp2
  refine bodyPost_ret (by simp [results, Try.results73, go_sem, ext_cell, World.cell?_alloc_past, ltk2, ltk3, ltk4, ltk5, ltk6, ltk7, ltk8, ltk9, *]; try rfl) rfl ?_
  exact ⟨rfl, by (repeat (first | with_reducible exact HBa | (with_reducible refine bextm ?_ (by first | omega | (simp [ext_size, World.setCell] <;> omega)) _ _) | (with_reducible refine below_drewN ?_ _) | (with_reducible refine Below.drew ?_) | (with_reducible refine Below.alloc ?_ (by first | omega | (simp [ext_size, World.setCell] <;> omega)) _) | (with_reducible refine Below.setCell ?_ (by first | omega | (simp [ext_size, World.setCell] <;> omega)) _)))⟩
set_option maxRecDepth 100000 in
set_option maxHeartbeats 3200000 in
theorem geo_Inside_e (P R : Nat → Int) (A B e : Int) (he : (e == 0) = false) (CK : ∀ (W : World) (gg : Nat), gg < W.heap.size → (∀ o, o < 6 → W.cell? ⟨gg, o, none⟩ = some (.int .i64 (P o))) → Calls Try.prog 71 #[.agg #[.int .i64 A, .int .i64 B], .slice (some ⟨gg, 0, none⟩) 1 1] W fun x w' => x = .returned (.int .i64 0) ∧ Below W.heap.size W w') (RL : ∀ w : World, Calls Try.prog 72 #[.agg #[.int .i64 A, .int .i64 B], .agg #[.int .i64 (P 0), .int .i64 (P 1), .int .i64 (P 2), .int .i64 (P 3), .int .i64 (P 4), .int .i64 (P 5)]] w fun x w' => x = .returned (.tuple #[.agg #[.int .i64 (R 0), .int .i64 (R 1), .int .i64 (R 2), .int .i64 (R 3), .int .i64 (R 4), .int .i64 (R 5)], .int .i64 e]) ∧ Below w.heap.size w w') (w : World) :
    Calls Try.prog 26 #[.agg #[.int .i64 A, .int .i64 B], .agg #[.int .i64 (P 0), .int .i64 (P 1), .int .i64 (P 2), .int .i64 (P 3), .int .i64 (P 4), .int .i64 (P 5)]] w fun x w' => x = .returned (.tuple #[.int .i64 0, .int .i64 e]) ∧ Below w.heap.size w w' := by
  have dAl := dAl; have dSt := dSt
  go_enter Try.func26, Try.ntmps26
  go_upto_region 1 with fail
  refine opq (fun wx => Cs wx (w.heap.size) 2 (fg2 A B) ∧ Cs wx (w.heap.size + 1) 6 P ∧ w.heap.size + 1 < wx.heap.size ∧ Below w.heap.size w wx) ?_ ?_
  · exact ⟨cs_alloc _ (cs_new (by simp) (arg2 A B)) (by simp <;> omega), cs_new (by simp) (arrV P), by simp, by (repeat (first | with_reducible exact b0 _ | (with_reducible refine bext ?_ _ _) | (with_reducible refine below_drewN ?_ _) | (with_reducible refine Below.drew ?_) | (with_reducible refine bal ?_ _)))⟩
  rintro w0 ⟨c0, c1, zs, HBa⟩
  have i0 : fg2 A B 0 = A := rfl
  have i1 : fg2 A B 1 = B := rfl
  have hc0 : ∀ o, o < 2 → w0.cell? ⟨w.heap.size, o, none⟩ = some (.int .i64 ((fg2 A B) o)) := c0
  have hc1 : ∀ o, o < 6 → w0.cell? ⟨w.heap.size + 1, o, none⟩ = some (.int .i64 (P o)) := c1
  go_wp2_with fail
  with_reducible refine (CK _ _ ?_ ?_).mono ?_
  · simp
  · exact cs_new (by simp) (arrV P)
  rintro e v1 ⟨rfl, hb⟩
  replace hb := bt (bal (b0 _) _) hb
  clear hc0 hc1
  replace c0 := cs_below c0 hb (by omega)
  replace c1 := cs_below c1 hb (by omega)
  replace HBa := HBa.trans (hb.mono (by first | omega | exact HBa.size))
  replace zs := Nat.lt_of_lt_of_le zs hb.size
  clear hb
  have hc0 : ∀ o, o < 2 → v1.cell? ⟨w.heap.size, o, none⟩ = some (.int .i64 ((fg2 A B) o)) := c0
  have hc1 : ∀ o, o < 6 → v1.cell? ⟨w.heap.size + 1, o, none⟩ = some (.int .i64 (P o)) := c1
  go_wp2_with fail
  with_reducible refine (RL _).mono ?_
  rintro e v2 ⟨rfl, hb⟩
  clear hc0 hc1
  replace c0 := cs_below c0 hb (by omega)
  replace c1 := cs_below c1 hb (by omega)
  replace HBa := HBa.trans (hb.mono (by first | omega | exact HBa.size))
  replace zs := Nat.lt_of_lt_of_le zs hb.size
  clear hb
  clear c0
  clear c1
  go_wp2
  refine bodyPost_ret (by simp [results, Try.results26, go_sem, ext_cell, World.cell?_alloc_past, ltk2, ltk3, ltk4, ltk5, ltk6, ltk7, ltk8, ltk9, *]; try rfl) rfl ?_
  exact ⟨rfl, by (repeat (first | with_reducible exact HBa | (with_reducible refine bextm ?_ (by first | omega | (simp [ext_size, World.setCell] <;> omega)) _ _) | (with_reducible refine below_drewN ?_ _) | (with_reducible refine Below.drew ?_) | (with_reducible refine Below.alloc ?_ (by first | omega | (simp [ext_size, World.setCell] <;> omega)) _) | (with_reducible refine Below.setCell ?_ (by first | omega | (simp [ext_size, World.setCell] <;> omega)) _)))⟩
set_option maxRecDepth 100000 in
set_option maxHeartbeats 3200000 in
theorem geo_Inside2 (P R : Nat → Int) (A B sg e : Int) (CK : ∀ (W : World) (gg : Nat), gg < W.heap.size → (∀ o, o < 6 → W.cell? ⟨gg, o, none⟩ = some (.int .i64 (P o))) → Calls Try.prog 71 #[.agg #[.int .i64 A, .int .i64 B], .slice (some ⟨gg, 0, none⟩) 1 1] W fun x w' => x = .returned (.int .i64 0) ∧ Below W.heap.size W w') (RL : ∀ w : World, Calls Try.prog 72 #[.agg #[.int .i64 A, .int .i64 B], .agg #[.int .i64 (P 0), .int .i64 (P 1), .int .i64 (P 2), .int .i64 (P 3), .int .i64 (P 4), .int .i64 (P 5)]] w fun x w' => x = .returned (.tuple #[.agg #[.int .i64 (R 0), .int .i64 (R 1), .int .i64 (R 2), .int .i64 (R 3), .int .i64 (R 4), .int .i64 (R 5)], .int .i64 0]) ∧ Below w.heap.size w w') (CM : ∀ w : World, Calls Try.prog 73 #[.agg #[.int .i64 (R 0), .int .i64 (R 1), .int .i64 (R 2), .int .i64 (R 3), .int .i64 (R 4), .int .i64 (R 5)], .agg #[.int .i64 (R 0), .int .i64 (R 1), .int .i64 (R 2), .int .i64 (R 3), .int .i64 (R 4), .int .i64 (R 5)]] w fun x w' => x = .returned (.tuple #[.int .i64 sg, .int .i64 e]) ∧ Below w.heap.size w w') (w : World) :
    Calls Try.prog 26 #[.agg #[.int .i64 A, .int .i64 B], .agg #[.int .i64 (P 0), .int .i64 (P 1), .int .i64 (P 2), .int .i64 (P 3), .int .i64 (P 4), .int .i64 (P 5)]] w fun x w' => x = .returned (.tuple #[.int .i64 sg, .int .i64 e]) ∧ Below w.heap.size w w' := by
  have dAl := dAl; have dSt := dSt
  go_enter Try.func26, Try.ntmps26
  go_upto_region 1 with fail
  refine opq (fun wx => Cs wx (w.heap.size) 2 (fg2 A B) ∧ Cs wx (w.heap.size + 1) 6 P ∧ w.heap.size + 1 < wx.heap.size ∧ Below w.heap.size w wx) ?_ ?_
  · exact ⟨cs_alloc _ (cs_new (by simp) (arg2 A B)) (by simp <;> omega), cs_new (by simp) (arrV P), by simp, by (repeat (first | with_reducible exact b0 _ | (with_reducible refine bext ?_ _ _) | (with_reducible refine below_drewN ?_ _) | (with_reducible refine Below.drew ?_) | (with_reducible refine bal ?_ _)))⟩
  rintro w0 ⟨c0, c1, zs, HBa⟩
  have i0 : fg2 A B 0 = A := rfl
  have i1 : fg2 A B 1 = B := rfl
  have hc0 : ∀ o, o < 2 → w0.cell? ⟨w.heap.size, o, none⟩ = some (.int .i64 ((fg2 A B) o)) := c0
  have hc1 : ∀ o, o < 6 → w0.cell? ⟨w.heap.size + 1, o, none⟩ = some (.int .i64 (P o)) := c1
  go_wp2_with fail
  with_reducible refine (CK _ _ ?_ ?_).mono ?_
  · simp
  · exact cs_new (by simp) (arrV P)
  rintro e v1 ⟨rfl, hb⟩
  replace hb := bt (bal (b0 _) _) hb
  clear hc0 hc1
  replace c0 := cs_below c0 hb (by omega)
  replace c1 := cs_below c1 hb (by omega)
  replace HBa := HBa.trans (hb.mono (by first | omega | exact HBa.size))
  replace zs := Nat.lt_of_lt_of_le zs hb.size
  clear hb
  have hc0 : ∀ o, o < 2 → v1.cell? ⟨w.heap.size, o, none⟩ = some (.int .i64 ((fg2 A B) o)) := c0
  have hc1 : ∀ o, o < 6 → v1.cell? ⟨w.heap.size + 1, o, none⟩ = some (.int .i64 (P o)) := c1
  go_wp2_with fail
  with_reducible refine (RL _).mono ?_
  rintro e v2 ⟨rfl, hb⟩
  clear hc0 hc1
  replace c0 := cs_below c0 hb (by omega)
  replace c1 := cs_below c1 hb (by omega)
  replace HBa := HBa.trans (hb.mono (by first | omega | exact HBa.size))
  replace zs := Nat.lt_of_lt_of_le zs hb.size
  clear hb
  have hc0 : ∀ o, o < 2 → v2.cell? ⟨w.heap.size, o, none⟩ = some (.int .i64 ((fg2 A B) o)) := c0
  have hc1 : ∀ o, o < 6 → v2.cell? ⟨w.heap.size + 1, o, none⟩ = some (.int .i64 (P o)) := c1
  go_upto_region 7 with fail
  clear hc0 hc1
  have zb := HBa.size
  refine opq (fun wx => Cs wx (w.heap.size) 2 (fg2 A B) ∧ Cs wx (w.heap.size + 1) 6 P ∧ Cs wx (v2.heap.size) 6 R ∧ v2.heap.size < wx.heap.size ∧ Below w.heap.size w wx) ?_ ?_
  · exact ⟨by (repeat (first | with_reducible exact c0 | with_reducible refine cs_drewN ?_ | with_reducible refine cs_drew ?_ | with_reducible refine cs_ext ?_ (by first | omega | (simp [ext_size, World.setCell] <;> omega)) _ _ | with_reducible refine cs_alloc _ ?_ (by first | omega | (simp [ext_size, World.setCell] <;> omega)) | with_reducible refine cs_up ?_ (by decide) | with_reducible refine cs_set _ ?_ (by first | omega | (simp <;> omega)))), by (repeat (first | with_reducible exact c1 | with_reducible refine cs_drewN ?_ | with_reducible refine cs_drew ?_ | with_reducible refine cs_ext ?_ (by first | omega | (simp [ext_size, World.setCell] <;> omega)) _ _ | with_reducible refine cs_alloc _ ?_ (by first | omega | (simp [ext_size, World.setCell] <;> omega)) | with_reducible refine cs_up ?_ (by decide) | with_reducible refine cs_set _ ?_ (by first | omega | (simp <;> omega)))), by (intro o ho; rcases (show o = 0 ∨ o = 1 ∨ o = 2 ∨ o = 3 ∨ o = 4 ∨ o = 5 by omega) with rfl | rfl | rfl | rfl | rfl | rfl <;> (simp (maxDischargeDepth := 8) [fg2, fg6, go_sem, World.cell?_alloc_past, ltk2, ltk3, ltk4, ltk5])), by (simp [World.setCell] <;> omega), by (repeat (first | with_reducible exact HBa | (with_reducible refine bextm ?_ (by first | omega | (simp [ext_size, World.setCell] <;> omega)) _ _) | (with_reducible refine below_drewN ?_ _) | (with_reducible refine Below.drew ?_) | (with_reducible refine Below.alloc ?_ (by first | omega | (simp [ext_size, World.setCell] <;> omega)) _) | (with_reducible refine Below.setCell ?_ (by first | omega | (simp [ext_size, World.setCell] <;> omega)) _)))⟩
  have yy3 := zs
  clear c0 c1 HBa zb zs
  generalize hq : v2.heap.size = q2 at *
  clear hq
  rintro uu3 ⟨c0, c1, d0, zn, HBa⟩
  have zs := zn
  clear zn
  have hc0 : ∀ o, o < 2 → uu3.cell? ⟨w.heap.size, o, none⟩ = some (.int .i64 ((fg2 A B) o)) := c0
  have hc1 : ∀ o, o < 6 → uu3.cell? ⟨w.heap.size + 1, o, none⟩ = some (.int .i64 (P o)) := c1
  have hd0 : ∀ o, o < 6 → uu3.cell? ⟨q2, o, none⟩ = some (.int .i64 (R o)) := d0
  go_wp2_with fail
  with_reducible refine (CM _).mono ?_
  rintro e v4 ⟨rfl, hb⟩
  clear hc0 hc1 hd0
  replace c0 := cs_below c0 hb (by omega)
  replace c1 := cs_below c1 hb (by omega)
  replace d0 := cs_below d0 hb (by omega)
  replace HBa := HBa.trans (hb.mono (by first | omega | exact HBa.size))
  replace zs := Nat.lt_of_lt_of_le zs hb.size
  clear hb
  go_wp2
  refine bodyPost_ret (by simp [results, Try.results26, go_sem, ext_cell, World.cell?_alloc_past, ltk2, ltk3, ltk4, ltk5, ltk6, ltk7, ltk8, ltk9, *]; try rfl) rfl ?_
  exact ⟨rfl, HBa⟩
set_option maxRecDepth 100000 in
set_option maxHeartbeats 3200000 in
theorem geo_On_e (P : Nat → Int) (A B sg e : Int) (he : (e == 0) = false) (IN : ∀ w : World, Calls Try.prog 26 #[.agg #[.int .i64 A, .int .i64 B], .agg #[.int .i64 (P 0), .int .i64 (P 1), .int .i64 (P 2), .int .i64 (P 3), .int .i64 (P 4), .int .i64 (P 5)]] w fun x w' => x = .returned (.tuple #[.int .i64 sg, .int .i64 e]) ∧ Below w.heap.size w w') (w : World) :
    Calls Try.prog 24 #[.agg #[.int .i64 A, .int .i64 B], .agg #[.int .i64 (P 0), .int .i64 (P 1), .int .i64 (P 2), .int .i64 (P 3), .int .i64 (P 4), .int .i64 (P 5)]] w fun x w' => x = .returned (.tuple #[.bool false, .int .i64 e]) ∧ Below w.heap.size w w' := by
  have dAl := dAl; have dSt := dSt
  go_enter Try.func24, Try.ntmps24
  go_upto_region 1 with fail
  refine opq (fun wx => Cs wx (w.heap.size) 2 (fg2 A B) ∧ Cs wx (w.heap.size + 1) 6 P ∧ w.heap.size + 1 < wx.heap.size ∧ Below w.heap.size w wx) ?_ ?_
  · exact ⟨cs_alloc _ (cs_new (by simp) (arg2 A B)) (by simp <;> omega), cs_new (by simp) (arrV P), by simp, by (repeat (first | with_reducible exact b0 _ | (with_reducible refine bext ?_ _ _) | (with_reducible refine below_drewN ?_ _) | (with_reducible refine Below.drew ?_) | (with_reducible refine bal ?_ _)))⟩
  rintro w0 ⟨c0, c1, zs, HBa⟩
  have i0 : fg2 A B 0 = A := rfl
  have i1 : fg2 A B 1 = B := rfl
  have hc0 : ∀ o, o < 2 → w0.cell? ⟨w.heap.size, o, none⟩ = some (.int .i64 ((fg2 A B) o)) := c0
  have hc1 : ∀ o, o < 6 → w0.cell? ⟨w.heap.size + 1, o, none⟩ = some (.int .i64 (P o)) := c1
  go_wp2_with fail
  with_reducible refine (IN _).mono ?_
  rintro e v1 ⟨rfl, hb⟩
  clear hc0 hc1
  replace c0 := cs_below c0 hb (by omega)
  replace c1 := cs_below c1 hb (by omega)
  replace HBa := HBa.trans (hb.mono (by first | omega | exact HBa.size))
  replace zs := Nat.lt_of_lt_of_le zs hb.size
  clear hb
  go_wp2
  refine bodyPost_ret (by simp [results, Try.results24, go_sem, ext_cell, World.cell?_alloc_past, ltk2, ltk3, ltk4, ltk5, ltk6, ltk7, ltk8, ltk9, *]; try rfl) rfl ?_
  exact ⟨rfl, HBa⟩
set_option maxRecDepth 100000 in
set_option maxHeartbeats 3200000 in
theorem geo_mustLie_no (P : Nat → Int) (A B : Int) (ON : ∀ w : World, Calls Try.prog 24 #[.agg #[.int .i64 A, .int .i64 B], .agg #[.int .i64 (P 0), .int .i64 (P 1), .int .i64 (P 2), .int .i64 (P 3), .int .i64 (P 4), .int .i64 (P 5)]] w fun x w' => x = .returned (.tuple #[.bool false, .int .i64 0]) ∧ Below w.heap.size w w') (w : World) :
    Calls Try.prog 77 #[.agg #[.int .i64 A, .int .i64 B], .agg #[.int .i64 (P 0), .int .i64 (P 1), .int .i64 (P 2), .int .i64 (P 3), .int .i64 (P 4), .int .i64 (P 5)]] w fun x w' => x = .returned (.int .i64 6) ∧ Below w.heap.size w w' := by
  have dAl := dAl; have dSt := dSt
  go_enter Try.func77, Try.ntmps77
  go_upto_region 1 with fail
  refine opq (fun wx => Cs wx (w.heap.size) 2 (fg2 A B) ∧ Cs wx (w.heap.size + 1) 6 P ∧ w.heap.size + 1 < wx.heap.size ∧ Below w.heap.size w wx) ?_ ?_
  · exact ⟨cs_alloc _ (cs_new (by simp) (arg2 A B)) (by simp <;> omega), cs_new (by simp) (arrV P), by simp, by (repeat (first | with_reducible exact b0 _ | (with_reducible refine bext ?_ _ _) | (with_reducible refine below_drewN ?_ _) | (with_reducible refine Below.drew ?_) | (with_reducible refine bal ?_ _)))⟩
  rintro w0 ⟨c0, c1, zs, HBa⟩
  have i0 : fg2 A B 0 = A := rfl
  have i1 : fg2 A B 1 = B := rfl
  have hc0 : ∀ o, o < 2 → w0.cell? ⟨w.heap.size, o, none⟩ = some (.int .i64 ((fg2 A B) o)) := c0
  have hc1 : ∀ o, o < 6 → w0.cell? ⟨w.heap.size + 1, o, none⟩ = some (.int .i64 (P o)) := c1
  go_wp2_with fail
  with_reducible refine (ON _).mono ?_
  rintro e v1 ⟨rfl, hb⟩
  clear hc0 hc1
  replace c0 := cs_below c0 hb (by omega)
  replace c1 := cs_below c1 hb (by omega)
  replace HBa := HBa.trans (hb.mono (by first | omega | exact HBa.size))
  replace zs := Nat.lt_of_lt_of_le zs hb.size
  clear hb
  go_wp2
  go_ret
  exact ⟨rfl, HBa⟩
set_option maxRecDepth 100000 in
set_option maxHeartbeats 3200000 in
theorem geo_mustLie_e (P : Nat → Int) (A B : Int) (b : Bool) (e : Int) (he : (e == 0) = false) (ON : ∀ w : World, Calls Try.prog 24 #[.agg #[.int .i64 A, .int .i64 B], .agg #[.int .i64 (P 0), .int .i64 (P 1), .int .i64 (P 2), .int .i64 (P 3), .int .i64 (P 4), .int .i64 (P 5)]] w fun x w' => x = .returned (.tuple #[.bool b, .int .i64 e]) ∧ Below w.heap.size w w') (w : World) :
    Calls Try.prog 77 #[.agg #[.int .i64 A, .int .i64 B], .agg #[.int .i64 (P 0), .int .i64 (P 1), .int .i64 (P 2), .int .i64 (P 3), .int .i64 (P 4), .int .i64 (P 5)]] w fun x w' => x = .returned (.int .i64 e) ∧ Below w.heap.size w w' := by
  have dAl := dAl; have dSt := dSt
  go_enter Try.func77, Try.ntmps77
  go_upto_region 1 with fail
  refine opq (fun wx => Cs wx (w.heap.size) 2 (fg2 A B) ∧ Cs wx (w.heap.size + 1) 6 P ∧ w.heap.size + 1 < wx.heap.size ∧ Below w.heap.size w wx) ?_ ?_
  · exact ⟨cs_alloc _ (cs_new (by simp) (arg2 A B)) (by simp <;> omega), cs_new (by simp) (arrV P), by simp, by (repeat (first | with_reducible exact b0 _ | (with_reducible refine bext ?_ _ _) | (with_reducible refine below_drewN ?_ _) | (with_reducible refine Below.drew ?_) | (with_reducible refine bal ?_ _)))⟩
  rintro w0 ⟨c0, c1, zs, HBa⟩
  have i0 : fg2 A B 0 = A := rfl
  have i1 : fg2 A B 1 = B := rfl
  have hc0 : ∀ o, o < 2 → w0.cell? ⟨w.heap.size, o, none⟩ = some (.int .i64 ((fg2 A B) o)) := c0
  have hc1 : ∀ o, o < 6 → w0.cell? ⟨w.heap.size + 1, o, none⟩ = some (.int .i64 (P o)) := c1
  go_wp2_with fail
  with_reducible refine (ON _).mono ?_
  rintro e v1 ⟨rfl, hb⟩
  clear hc0 hc1
  replace c0 := cs_below c0 hb (by omega)
  replace c1 := cs_below c1 hb (by omega)
  replace HBa := HBa.trans (hb.mono (by first | omega | exact HBa.size))
  replace zs := Nat.lt_of_lt_of_le zs hb.size
  clear hb
  go_wp2
  go_ret
  exact ⟨rfl, HBa⟩
set_option maxRecDepth 100000 in
set_option maxHeartbeats 3200000 in
theorem geo_Side_e (P Q : Nat → Int) (A B e : Int) (he : (e == 0) = false) (CK : ∀ (W : World) (gg : Nat), gg < W.heap.size → (∀ o, o < 12 → W.cell? ⟨gg, o, none⟩ = some (.int .i64 (pq P Q o))) → Calls Try.prog 71 #[.agg #[.int .i64 A, .int .i64 B], .slice (some ⟨gg, 0, none⟩) 2 2] W fun x w' => x = .returned (.int .i64 0) ∧ Below W.heap.size W w') (ML : ∀ w : World, Calls Try.prog 77 #[.agg #[.int .i64 A, .int .i64 B], .agg #[.int .i64 (P 0), .int .i64 (P 1), .int .i64 (P 2), .int .i64 (P 3), .int .i64 (P 4), .int .i64 (P 5)]] w fun x w' => x = .returned (.int .i64 e) ∧ Below w.heap.size w w') (w : World) :
    Calls Try.prog 34 #[.agg #[.int .i64 A, .int .i64 B], .agg #[.int .i64 (P 0), .int .i64 (P 1), .int .i64 (P 2), .int .i64 (P 3), .int .i64 (P 4), .int .i64 (P 5)], .agg #[.int .i64 (Q 0), .int .i64 (Q 1), .int .i64 (Q 2), .int .i64 (Q 3), .int .i64 (Q 4), .int .i64 (Q 5)]] w fun x w' => x = .returned (.tuple #[.int .i64 0, .int .i64 e]) ∧ Below w.heap.size w w' := by
  have dAl := dAl; have dSt := dSt
  go_enter Try.func34, Try.ntmps34
  go_upto_region 1 with fail
  refine opq (fun wx => Cs wx (w.heap.size) 2 (fg2 A B) ∧ Cs wx (w.heap.size + 1) 6 P ∧ Cs wx (w.heap.size + 1 + 1) 6 Q ∧ w.heap.size + 1 + 1 < wx.heap.size ∧ Below w.heap.size w wx) ?_ ?_
  · exact ⟨cs_alloc _ (cs_alloc _ (cs_new (by simp) (arg2 A B)) (by simp <;> omega)) (by simp <;> omega), cs_alloc _ (cs_new (by simp) (arrV P)) (by simp <;> omega), cs_new (by simp) (arrV Q), by simp, by (repeat (first | with_reducible exact b0 _ | (with_reducible refine bext ?_ _ _) | (with_reducible refine below_drewN ?_ _) | (with_reducible refine Below.drew ?_) | (with_reducible refine bal ?_ _)))⟩
  rintro w0 ⟨c0, c1, c2, zs, HBa⟩
  have i0 : fg2 A B 0 = A := rfl
  have i1 : fg2 A B 1 = B := rfl
  have hc0 : ∀ o, o < 2 → w0.cell? ⟨w.heap.size, o, none⟩ = some (.int .i64 ((fg2 A B) o)) := c0
  have hc1 : ∀ o, o < 6 → w0.cell? ⟨w.heap.size + 1, o, none⟩ = some (.int .i64 (P o)) := c1
  have hc2 : ∀ o, o < 6 → w0.cell? ⟨w.heap.size + 1 + 1, o, none⟩ = some (.int .i64 (Q o)) := c2
  go_wp2_with fail
  with_reducible refine (CK _ _ ?_ ?_).mono ?_
  · simp
  · exact cs_new (by simp) (arrPQ P Q)
  rintro e v1 ⟨rfl, hb⟩
  replace hb := bt (bal (b0 _) _) hb
  clear hc0 hc1 hc2
  replace c0 := cs_below c0 hb (by omega)
  replace c1 := cs_below c1 hb (by omega)
  replace c2 := cs_below c2 hb (by omega)
  replace HBa := HBa.trans (hb.mono (by first | omega | exact HBa.size))
  replace zs := Nat.lt_of_lt_of_le zs hb.size
  clear hb
  have hc0 : ∀ o, o < 2 → v1.cell? ⟨w.heap.size, o, none⟩ = some (.int .i64 ((fg2 A B) o)) := c0
  have hc1 : ∀ o, o < 6 → v1.cell? ⟨w.heap.size + 1, o, none⟩ = some (.int .i64 (P o)) := c1
  have hc2 : ∀ o, o < 6 → v1.cell? ⟨w.heap.size + 1 + 1, o, none⟩ = some (.int .i64 (Q o)) := c2
  go_wp2_with fail
  with_reducible refine (ML _).mono ?_
  rintro e v2 ⟨rfl, hb⟩
  clear hc0 hc1 hc2
  replace c0 := cs_below c0 hb (by omega)
  replace c1 := cs_below c1 hb (by omega)
  replace c2 := cs_below c2 hb (by omega)
  replace HBa := HBa.trans (hb.mono (by first | omega | exact HBa.size))
  replace zs := Nat.lt_of_lt_of_le zs hb.size
  clear hb
  go_wp2
  refine bodyPost_ret (by simp [results, Try.results34, go_sem, ext_cell, World.cell?_alloc_past, ltk2, ltk3, ltk4, ltk5, ltk6, ltk7, ltk8, ltk9, *]; try rfl) rfl ?_
  exact ⟨rfl, HBa⟩
set_option maxRecDepth 100000 in
set_option maxHeartbeats 3200000 in
theorem geo_Side2 (P Q R : Nat → Int) (A B e2 sg e : Int) (CK : ∀ (W : World) (gg : Nat), gg < W.heap.size → (∀ o, o < 12 → W.cell? ⟨gg, o, none⟩ = some (.int .i64 (pq P Q o))) → Calls Try.prog 71 #[.agg #[.int .i64 A, .int .i64 B], .slice (some ⟨gg, 0, none⟩) 2 2] W fun x w' => x = .returned (.int .i64 0) ∧ Below W.heap.size W w') (ML : ∀ w : World, Calls Try.prog 77 #[.agg #[.int .i64 A, .int .i64 B], .agg #[.int .i64 (P 0), .int .i64 (P 1), .int .i64 (P 2), .int .i64 (P 3), .int .i64 (P 4), .int .i64 (P 5)]] w fun x w' => x = .returned (.int .i64 0) ∧ Below w.heap.size w w') (NO : ∀ w : World, Calls Try.prog 32 #[.agg #[.int .i64 A, .int .i64 B], .agg #[.int .i64 (P 0), .int .i64 (P 1), .int .i64 (P 2), .int .i64 (P 3), .int .i64 (P 4), .int .i64 (P 5)]] w fun x w' => x = .returned (.tuple #[.agg #[.int .i64 (R 0), .int .i64 (R 1), .int .i64 (R 2), .int .i64 (R 3), .int .i64 (R 4), .int .i64 (R 5)], .int .i64 e2]) ∧ Below w.heap.size w w') (CM : ∀ w : World, Calls Try.prog 73 #[.agg #[.int .i64 (R 0), .int .i64 (R 1), .int .i64 (R 2), .int .i64 (R 3), .int .i64 (R 4), .int .i64 (R 5)], .agg #[.int .i64 (Q 0), .int .i64 (Q 1), .int .i64 (Q 2), .int .i64 (Q 3), .int .i64 (Q 4), .int .i64 (Q 5)]] w fun x w' => x = .returned (.tuple #[.int .i64 sg, .int .i64 e]) ∧ Below w.heap.size w w') (w : World) :
    Calls Try.prog 34 #[.agg #[.int .i64 A, .int .i64 B], .agg #[.int .i64 (P 0), .int .i64 (P 1), .int .i64 (P 2), .int .i64 (P 3), .int .i64 (P 4), .int .i64 (P 5)], .agg #[.int .i64 (Q 0), .int .i64 (Q 1), .int .i64 (Q 2), .int .i64 (Q 3), .int .i64 (Q 4), .int .i64 (Q 5)]] w fun x w' => x = .returned (.tuple #[.int .i64 sg, .int .i64 e]) ∧ Below w.heap.size w w' := by
  have dAl := dAl; have dSt := dSt
  go_enter Try.func34, Try.ntmps34
  go_upto_region 1 with fail
  refine opq (fun wx => Cs wx (w.heap.size) 2 (fg2 A B) ∧ Cs wx (w.heap.size + 1) 6 P ∧ Cs wx (w.heap.size + 1 + 1) 6 Q ∧ w.heap.size + 1 + 1 < wx.heap.size ∧ Below w.heap.size w wx) ?_ ?_
  · exact ⟨cs_alloc _ (cs_alloc _ (cs_new (by simp) (arg2 A B)) (by simp <;> omega)) (by simp <;> omega), cs_alloc _ (cs_new (by simp) (arrV P)) (by simp <;> omega), cs_new (by simp) (arrV Q), by simp, by (repeat (first | with_reducible exact b0 _ | (with_reducible refine bext ?_ _ _) | (with_reducible refine below_drewN ?_ _) | (with_reducible refine Below.drew ?_) | (with_reducible refine bal ?_ _)))⟩
  rintro w0 ⟨c0, c1, c2, zs, HBa⟩
  have i0 : fg2 A B 0 = A := rfl
  have i1 : fg2 A B 1 = B := rfl
  have hc0 : ∀ o, o < 2 → w0.cell? ⟨w.heap.size, o, none⟩ = some (.int .i64 ((fg2 A B) o)) := c0
  have hc1 : ∀ o, o < 6 → w0.cell? ⟨w.heap.size + 1, o, none⟩ = some (.int .i64 (P o)) := c1
  have hc2 : ∀ o, o < 6 → w0.cell? ⟨w.heap.size + 1 + 1, o, none⟩ = some (.int .i64 (Q o)) := c2
  go_wp2_with fail
  with_reducible refine (CK _ _ ?_ ?_).mono ?_
  · simp
  · exact cs_new (by simp) (arrPQ P Q)
  rintro e v1 ⟨rfl, hb⟩
  replace hb := bt (bal (b0 _) _) hb
  clear hc0 hc1 hc2
  replace c0 := cs_below c0 hb (by omega)
  replace c1 := cs_below c1 hb (by omega)
  replace c2 := cs_below c2 hb (by omega)
  replace HBa := HBa.trans (hb.mono (by first | omega | exact HBa.size))
  replace zs := Nat.lt_of_lt_of_le zs hb.size
  clear hb
  have hc0 : ∀ o, o < 2 → v1.cell? ⟨w.heap.size, o, none⟩ = some (.int .i64 ((fg2 A B) o)) := c0
  have hc1 : ∀ o, o < 6 → v1.cell? ⟨w.heap.size + 1, o, none⟩ = some (.int .i64 (P o)) := c1
  have hc2 : ∀ o, o < 6 → v1.cell? ⟨w.heap.size + 1 + 1, o, none⟩ = some (.int .i64 (Q o)) := c2
  go_wp2_with fail
  with_reducible refine (ML _).mono ?_
  rintro e v2 ⟨rfl, hb⟩
  clear hc0 hc1 hc2
  replace c0 := cs_below c0 hb (by omega)
  replace c1 := cs_below c1 hb (by omega)
  replace c2 := cs_below c2 hb (by omega)
  replace HBa := HBa.trans (hb.mono (by first | omega | exact HBa.size))
  replace zs := Nat.lt_of_lt_of_le zs hb.size
  clear hb
  have hc0 : ∀ o, o < 2 → v2.cell? ⟨w.heap.size, o, none⟩ = some (.int .i64 ((fg2 A B) o)) := c0
  have hc1 : ∀ o, o < 6 → v2.cell? ⟨w.heap.size + 1, o, none⟩ = some (.int .i64 (P o)) := c1
  have hc2 : ∀ o, o < 6 → v2.cell? ⟨w.heap.size + 1 + 1, o, none⟩ = some (.int .i64 (Q o)) := c2
  go_wp2_with fail
  with_reducible refine (NO _).mono ?_
  rintro e v3 ⟨rfl, hb⟩
  clear hc0 hc1 hc2
  replace c0 := cs_below c0 hb (by omega)
  replace c1 := cs_below c1 hb (by omega)
  replace c2 := cs_below c2 hb (by omega)
  replace HBa := HBa.trans (hb.mono (by first | omega | exact HBa.size))
  replace zs := Nat.lt_of_lt_of_le zs hb.size
  clear hb
  have hc0 : ∀ o, o < 2 → v3.cell? ⟨w.heap.size, o, none⟩ = some (.int .i64 ((fg2 A B) o)) := c0
  have hc1 : ∀ o, o < 6 → v3.cell? ⟨w.heap.size + 1, o, none⟩ = some (.int .i64 (P o)) := c1
  have hc2 : ∀ o, o < 6 → v3.cell? ⟨w.heap.size + 1 + 1, o, none⟩ = some (.int .i64 (Q o)) := c2
  go_upto_region 8 with fail
  clear hc0 hc1 hc2
  have zb := HBa.size
  refine opq (fun wx => Cs wx (w.heap.size) 2 (fg2 A B) ∧ Cs wx (w.heap.size + 1) 6 P ∧ Cs wx (w.heap.size + 1 + 1) 6 Q ∧ Cs wx (v3.heap.size) 6 R ∧ v3.heap.size < wx.heap.size ∧ Below w.heap.size w wx) ?_ ?_
  · exact ⟨by (repeat (first | with_reducible exact c0 | with_reducible refine cs_drewN ?_ | with_reducible refine cs_drew ?_ | with_reducible refine cs_ext ?_ (by first | omega | (simp [ext_size, World.setCell] <;> omega)) _ _ | with_reducible refine cs_alloc _ ?_ (by first | omega | (simp [ext_size, World.setCell] <;> omega)) | with_reducible refine cs_up ?_ (by decide) | with_reducible refine cs_set _ ?_ (by first | omega | (simp <;> omega)))), by (repeat (first | with_reducible exact c1 | with_reducible refine cs_drewN ?_ | with_reducible refine cs_drew ?_ | with_reducible refine cs_ext ?_ (by first | omega | (simp [ext_size, World.setCell] <;> omega)) _ _ | with_reducible refine cs_alloc _ ?_ (by first | omega | (simp [ext_size, World.setCell] <;> omega)) | with_reducible refine cs_up ?_ (by decide) | with_reducible refine cs_set _ ?_ (by first | omega | (simp <;> omega)))), by (repeat (first | with_reducible exact c2 | with_reducible refine cs_drewN ?_ | with_reducible refine cs_drew ?_ | with_reducible refine cs_ext ?_ (by first | omega | (simp [ext_size, World.setCell] <;> omega)) _ _ | with_reducible refine cs_alloc _ ?_ (by first | omega | (simp [ext_size, World.setCell] <;> omega)) | with_reducible refine cs_up ?_ (by decide) | with_reducible refine cs_set _ ?_ (by first | omega | (simp <;> omega)))), by (intro o ho; rcases (show o = 0 ∨ o = 1 ∨ o = 2 ∨ o = 3 ∨ o = 4 ∨ o = 5 by omega) with rfl | rfl | rfl | rfl | rfl | rfl <;> (simp (maxDischargeDepth := 8) [fg2, fg6, go_sem, World.cell?_alloc_past, ltk2, ltk3, ltk4, ltk5])), by (simp [World.setCell] <;> omega), by (repeat (first | with_reducible exact HBa | (with_reducible refine bextm ?_ (by first | omega | (simp [ext_size, World.setCell] <;> omega)) _ _) | (with_reducible refine below_drewN ?_ _) | (with_reducible refine Below.drew ?_) | (with_reducible refine Below.alloc ?_ (by first | omega | (simp [ext_size, World.setCell] <;> omega)) _) | (with_reducible refine Below.setCell ?_ (by first | omega | (simp [ext_size, World.setCell] <;> omega)) _)))⟩
  have yy4 := zs
  clear c0 c1 c2 HBa zb zs
  generalize hq : v3.heap.size = q3 at *
  clear hq
  rintro uu4 ⟨c0, c1, c2, d0, zn, HBa⟩
  have zs := zn
  clear zn
  have hc0 : ∀ o, o < 2 → uu4.cell? ⟨w.heap.size, o, none⟩ = some (.int .i64 ((fg2 A B) o)) := c0
  have hc1 : ∀ o, o < 6 → uu4.cell? ⟨w.heap.size + 1, o, none⟩ = some (.int .i64 (P o)) := c1
  have hc2 : ∀ o, o < 6 → uu4.cell? ⟨w.heap.size + 1 + 1, o, none⟩ = some (.int .i64 (Q o)) := c2
  have hd0 : ∀ o, o < 6 → uu4.cell? ⟨q3, o, none⟩ = some (.int .i64 (R o)) := d0
  go_wp2_with fail
  with_reducible refine (CM _).mono ?_
  rintro e v5 ⟨rfl, hb⟩
  clear hc0 hc1 hc2 hd0
  replace c0 := cs_below c0 hb (by omega)
  replace c1 := cs_below c1 hb (by omega)
  replace c2 := cs_below c2 hb (by omega)
  replace d0 := cs_below d0 hb (by omega)
  replace HBa := HBa.trans (hb.mono (by first | omega | exact HBa.size))
  replace zs := Nat.lt_of_lt_of_le zs hb.size
  clear hb
  go_wp2
  refine bodyPost_ret (by simp [results, Try.results34, go_sem, ext_cell, World.cell?_alloc_past, ltk2, ltk3, ltk4, ltk5, ltk6, ltk7, ltk8, ltk9, *]; try rfl) rfl ?_
  exact ⟨rfl, HBa⟩
end Go.Proofs.Ytdolfdmgdknboaa
namespace Go.Proofs.Ytdolfdmgdknboaa
open Go.RowKit
set_option linter.unusedVariables false
set_option linter.unusedSimpArgs false

theorem ap_01 {M V : Nat → Int} (oM : okM M) (oV : okW V) : apE M V = 0 ∨ apE M V = 16 := by
  obtain ⟨u1, u2, u3⟩ := okM_row M oM
  have a := do_01 u1 oV
  have b := do_01 u2 oV
  have c := do_01 u3 oV
  rw [apE, if_pos ⟨oM, oV⟩]
  unfold apE0 fsI
  split <;> (try split) <;> simp_all
theorem dtW_01 {P Q : Nat → Int} (oP : okW P) (oQ : okW Q) : dtW P Q = 0 ∨ dtW P Q = 16 := dt_01 oP oQ
theorem dtW_ok {P Q : Nat → Int} (h : dtW P Q = 0) : okW P ∧ okW Q := by
  unfold dtW dtE at h
  split at h
  · rename_i k; exact k
  · exact absurd h (by omega)
/-- compare, Inside, On, mustLie, Side: results and errors for valid points. -/
theorem g_compareA {P Q : Nat → Int} (cP : okCW P) (cQ : okCW Q) (w : World) :
    Calls Try.prog 73 #[.agg #[.int .i64 (P 0), .int .i64 (P 1), .int .i64 (P 2), .int .i64 (P 3), .int .i64 (P 4), .int .i64 (P 5)], .agg #[.int .i64 (Q 0), .int .i64 (Q 1), .int .i64 (Q 2), .int .i64 (Q 3), .int .i64 (Q 4), .int .i64 (Q 5)]] w fun x w' => x = .returned (.tuple #[.int .i64 (if dtW P Q = 0 then cmW P Q else 0), .int .i64 (dtW P Q)]) ∧ Below w.heap.size w w' := by
  by_cases e : dtW P Q = 0
  · rw [if_pos e, e]
    exact g_compare (dtW_ok e).1 (dtW_ok e).2 e w
  · rw [if_neg e]
    exact geo_compare_e P Q _ _ _ (show (dtW P Q == 0) = false by simpa using e) (fun w => vec_Dot (P 0) (P 1) (P 2) (P 3) (P 4) (P 5) (Q 0) (Q 1) (Q 2) (Q 3) (Q 4) (Q 5) cP.1 cP.2.1 cP.2.2 cQ.1 cQ.2.1 cQ.2.2 w) w
def rel (A B : Int) (P : Nat → Int) : Nat → Int := apR (dgM A B) P
def inE (A B : Int) (P : Nat → Int) : Int := if apE (dgM A B) P = 0 then dtW (rel A B P) (rel A B P) else apE (dgM A B) P
def inN (A B : Int) (P : Nat → Int) : Int := if apE (dgM A B) P = 0 then (if dtW (rel A B P) (rel A B P) = 0 then cmW (rel A B P) (rel A B P) else 0) else 0
theorem g_InsideA {A B : Int} {P : Nat → Int} (hG : gOk A B) (oP : okW P) (w : World) :
    Calls Try.prog 26 #[.agg #[.int .i64 A, .int .i64 B], .agg #[.int .i64 (P 0), .int .i64 (P 1), .int .i64 (P 2), .int .i64 (P 3), .int .i64 (P 4), .int .i64 (P 5)]] w fun x w' => x = .returned (.tuple #[.int .i64 (inN A B P), .int .i64 (inE A B P)]) ∧ Below w.heap.size w w' := by
  obtain ⟨g1, g2, g3, g4⟩ := gOk_in hG
  have SH := fun w => g_shrink (a := A) (b := B) (by omega) (by omega) (by omega) (by omega) oP w
  by_cases e : apE (dgM A B) P = 0
  · rw [inN, inE, if_pos e, if_pos e]
    rw [e] at SH
    have cR : okCW (rel A B P) := okCW_ap
    exact geo_Inside2 P (rel A B P) A B _ _ (fun W gg h1 h2 => g_points1 hG oP W gg h1 h2) (fun w => geo_relative P _ A B 0 SH w) (fun w => g_compareA cR cR w) w
  · rw [inN, inE, if_neg e, if_neg e]
    exact geo_Inside_e P _ A B _ (by simpa using e) (fun W gg h1 h2 => g_points1 hG oP W gg h1 h2) (fun w => geo_relative P _ A B _ SH w) w
def onB (A B : Int) (P : Nat → Int) : Bool := if inE A B P = 0 then (inN A B P == 0) else false
theorem g_OnA {A B : Int} {P : Nat → Int} (hG : gOk A B) (oP : okW P) (w : World) :
    Calls Try.prog 24 #[.agg #[.int .i64 A, .int .i64 B], .agg #[.int .i64 (P 0), .int .i64 (P 1), .int .i64 (P 2), .int .i64 (P 3), .int .i64 (P 4), .int .i64 (P 5)]] w fun x w' => x = .returned (.tuple #[.bool (onB A B P), .int .i64 (inE A B P)]) ∧ Below w.heap.size w w' := by
  have IN := fun w => g_InsideA hG oP w
  by_cases e : inE A B P = 0
  · rw [onB, if_pos e, e]
    rw [e] at IN
    exact geo_On P A B _ _ rfl IN w
  · rw [onB, if_neg e]
    exact geo_On_e P A B _ _ (by simpa using e) IN w
def mlE (A B : Int) (P : Nat → Int) : Int := if inE A B P = 0 then (if inN A B P = 0 then 0 else 6) else inE A B P
theorem g_mustA {A B : Int} {P : Nat → Int} (hG : gOk A B) (oP : okW P) (w : World) :
    Calls Try.prog 77 #[.agg #[.int .i64 A, .int .i64 B], .agg #[.int .i64 (P 0), .int .i64 (P 1), .int .i64 (P 2), .int .i64 (P 3), .int .i64 (P 4), .int .i64 (P 5)]] w fun x w' => x = .returned (.int .i64 (mlE A B P)) ∧ Below w.heap.size w w' := by
  have ON := fun w => g_OnA hG oP w
  by_cases e : inE A B P = 0
  · rw [mlE, if_pos e]
    by_cases n : inN A B P = 0
    · rw [if_pos n]
      rw [onB, if_pos e, e, n] at ON
      exact geo_mustLie P A B ON w
    · rw [if_neg n]
      rw [onB, if_pos e, e, show (inN A B P == 0) = false by simpa using n] at ON
      exact geo_mustLie_no P A B ON w
  · rw [mlE, if_neg e]
    exact geo_mustLie_e P A B _ _ (by simpa using e) ON w
def nrm (A B : Int) (P : Nat → Int) : Nat → Int := apR (dgM (A * A) (B * B)) P
def sdE (A B : Int) (P Q : Nat → Int) : Int := if mlE A B P = 0 then dtW (nrm A B P) Q else mlE A B P
def sdN (A B : Int) (P Q : Nat → Int) : Int := if mlE A B P = 0 then (if dtW (nrm A B P) Q = 0 then cmW (nrm A B P) Q else 0) else 0
theorem g_SideA {A B : Int} {P Q : Nat → Int} (hG : gOk A B) (oP : okW P) (oQ : okW Q) (w : World) :
    Calls Try.prog 34 #[.agg #[.int .i64 A, .int .i64 B], .agg #[.int .i64 (P 0), .int .i64 (P 1), .int .i64 (P 2), .int .i64 (P 3), .int .i64 (P 4), .int .i64 (P 5)], .agg #[.int .i64 (Q 0), .int .i64 (Q 1), .int .i64 (Q 2), .int .i64 (Q 3), .int .i64 (Q 4), .int .i64 (Q 5)]] w fun x w' => x = .returned (.tuple #[.int .i64 (sdN A B P Q), .int .i64 (sdE A B P Q)]) ∧ Below w.heap.size w w' := by
  have ML := fun w => g_mustA hG oP w
  by_cases e : mlE A B P = 0
  · rw [sdN, sdE, if_pos e, if_pos e]
    rw [e] at ML
    have cN : okCW (nrm A B P) := okCW_ap
    exact geo_Side2 P Q (nrm A B P) A B _ _ _ (fun W gg h1 h2 => g_points2 hG oP oQ W gg h1 h2) ML (fun w => g_Normal hG oP w) (fun w => g_compareA cN (okW_cw oQ) w) w
  · rw [sdN, sdE, if_neg e, if_neg e]
    exact geo_Side_e P Q A B _ (by simpa using e) (fun W gg h1 h2 => g_points2 hG oP oQ W gg h1 h2) ML w
/-- Values. -/
theorem dg_val {a b : Int} {V : Nat → Int} (h1 : 1 ≤ a) (h2 : a ≤ 1000000000000000000) (h3 : 1 ≤ b) (h4 : b ≤ 1000000000000000000) (oV : okW V) (e : apE (dgM a b) V = 0) :
    okW (apR (dgM a b) V) ∧ vv (apR (dgM a b) V) 0 = qv 1 a * vv V 0 ∧ vv (apR (dgM a b) V) 1 = qv 1 a * vv V 1 ∧ vv (apR (dgM a b) V) 2 = qv 1 b * vv V 2 := by
  obtain ⟨o, v⟩ := q_ap (okM_dg h1 h2 h3 h4) oV e
  have v0 := v 0 (by omega)
  have v1 := v 1 (by omega)
  have v2 := v 2 (by omega)
  change _ = qv 1 a * _ + qv 0 1 * _ + qv 0 1 * _ at v0
  change _ = qv 0 1 * _ + qv 1 a * _ + qv 0 1 * _ at v1
  change _ = qv 0 1 * _ + qv 0 1 * _ + qv 1 b * _ at v2
  rw [q_01] at v0 v1 v2
  exact ⟨o, by rw [v0]; grind, by rw [v1]; grind, by rw [v2]; grind⟩
theorem cm_eq {P Q R S : Nat → Int} (e1 : dtW P Q = 0) (e2 : dtW R S = 0) (h : vv P 0 * vv Q 0 + vv P 1 * vv Q 1 + vv P 2 * vv Q 2 = vv R 0 * vv S 0 + vv R 1 * vv S 1 + vv R 2 * vv S 2) : cmW P Q = cmW R S := by
  obtain ⟨a1, a2⟩ := dt_in (dtW_ok e1).1 (dtW_ok e1).2 e1
  obtain ⟨b1, b2⟩ := dt_in (dtW_ok e2).1 (dtW_ok e2).2 e2
  obtain ⟨c1, c2⟩ := q_inj a1 b1 (by rw [a2, b2]; exact h)
  unfold cmW; rw [c1, c2]
theorem cm_one {P : Nat → Int} (e : dtW P P = 0) (h : vv P 0 * vv P 0 + vv P 1 * vv P 1 + vv P 2 * vv P 2 = 1) : cmW P P = 0 := by
  obtain ⟨a1, a2⟩ := dt_in (dtW_ok e).1 (dtW_ok e).2 e
  obtain ⟨c1, c2⟩ := q_inj a1 (show okF 1 1 = true by decide) (by rw [a2, q_11]; exact h)
  unfold cmW; rw [c1, c2]; decide
theorem in_01 {A B : Int} {P : Nat → Int} (hG : gOk A B) (oP : okW P) : inE A B P = 0 ∨ inE A B P = 16 := by
  obtain ⟨g1, g2, g3, g4⟩ := gOk_in hG
  have oM := okM_dg (a := A) (b := B) (by omega) (by omega) (by omega) (by omega)
  rw [inE]
  by_cases e : apE (dgM A B) P = 0
  · rw [if_pos e]
    have oR := (q_ap oM oP e).1
    exact dtW_01 oR oR
  · rw [if_neg e]; exact ap_01 oM oP
theorem in_zero {A B : Int} {P : Nat → Int} (e : inE A B P = 0) : apE (dgM A B) P = 0 ∧ dtW (rel A B P) (rel A B P) = 0 ∧ inN A B P = cmW (rel A B P) (rel A B P) := by
  unfold inE at e
  by_cases k : apE (dgM A B) P = 0
  · rw [if_pos k] at e
    exact ⟨k, e, by rw [inN, if_pos k, if_pos e]⟩
  · rw [if_neg k] at e; exact absurd e k
theorem z_val {r s : Int} {c k : Rat} {V : Nat → Int} (oM : okM (tmR 2 r s)) (vM : ∀ i j, i < 3 → j < 3 → mv (tmR 2 r s) i j = rotV (2 : Int).toNat c k i j) (oV : okW V) (e : apE (tmR 2 r s) V = 0) :
    okW (apR (tmR 2 r s) V) ∧ vv (apR (tmR 2 r s) V) 0 = c * vv V 0 - k * vv V 1 ∧ vv (apR (tmR 2 r s) V) 1 = k * vv V 0 + c * vv V 1 ∧ vv (apR (tmR 2 r s) V) 2 = vv V 2 := by
  obtain ⟨o, v⟩ := q_ap oM oV e
  refine ⟨o, ?_, ?_, ?_⟩
  · rw [v 0 (by omega), vM 0 0 (by omega) (by omega), vM 0 1 (by omega) (by omega), vM 0 2 (by omega) (by omega)]; simp [rotV]; grind
  · rw [v 1 (by omega), vM 1 0 (by omega) (by omega), vM 1 1 (by omega) (by omega), vM 1 2 (by omega) (by omega)]; simp [rotV]; grind
  · rw [v 2 (by omega), vM 2 0 (by omega) (by omega), vM 2 1 (by omega) (by omega), vM 2 2 (by omega) (by omega)]; simp [rotV]; grind

/-- A place, turned about the axis Z, is in range. -/
theorem turn_at {A B n d p q r s : Int} (hG : gOk A B) (hs : pOk n d) (h1 : -d ≤ n) (h2 : n ≤ d) (ht : pOk p q) (hr : pOk r s) : apE (tmR 2 r s) (atR A B n d p q) = 0 ∧ okW (atR A B n d p q) ∧
    ∃ c k u v f g : Rat, c * c + k * k = 1 ∧ (∀ i j, i < 3 → j < 3 → mv (tmR 2 r s) i j = rotV (2 : Int).toNat c k i j) ∧ okM (tmR 2 r s) ∧ u * u + v * v = 1 ∧ f * f + g * g = 1 ∧ vv (atR A B n d p q) 0 = f * ((A : Rat) * u) ∧ vv (atR A B n d p q) 1 = g * ((A : Rat) * u) ∧ vv (atR A B n d p q) 2 = (B : Rat) * v := by
  obtain ⟨eA, c1, c2, k1, k2, f1, f2, g1, g2, sc, sk, ck, sf, sg, fg, s0, s1, s2, x0, x1, x2⟩ := at_val hG hs h1 h2 ht
  have oP : okW (atR A B n d p q) := okW_of s0.1 s1.1 s2.1
  obtain ⟨tS, tp⟩ := par_pr hr
  have a2 : ¬ ((2 : Int) < 0 ∨ (2 : Int) < 2) := by omega
  obtain ⟨tc, ts⟩ := turn_sf tS
  obtain ⟨c, k, cr, _, _, _, oT, vT⟩ := q_tm hr.1 a2 tp
  have eT := (tm_ok 2 r s hr.1 a2 tp).1
  have v00 := vT 0 0 (by omega) (by omega)
  have v10 := vT 1 0 (by omega) (by omega)
  have oT' := oT
  rw [eT] at oT' v00 v10
  have w00 : qv (c_N r s) (c_D r s) = c := v00
  have w10 : qv (s_N r s) (s_D r s) = k := v10
  have hA : SF A 1 1000 1 := by
    obtain ⟨g1, g2, g3, g4⟩ := gOk_in hG
    exact ⟨okF_in ⟨by omega, by omega, by omega, by omega, by unfold gcdI; rw [show (1 : Int).natAbs = 1 from rfl, Nat.gcd_one_right]; rfl⟩, by omega, by omega, by omega⟩
  have qA : qv A 1 = (A : Rat) := by rw [q_div, show ((1 : Int) : Rat) = 1 from rfl]; grind
  generalize atR A B n d p q = P at *
  obtain ⟨ex, xS⟩ := sf_mu hA sc (by omega) (by omega)
  have xv := (q_mu hA.1 sc.1 ex).2
  obtain ⟨m1, b1⟩ := sf_mu tc s0 (by omega) (by omega)
  obtain ⟨m2, b2⟩ := sf_mu (sf_neg ts) s1 (by omega) (by omega)
  obtain ⟨m3, b3⟩ := sf_mu ts s0 (by omega) (by omega)
  obtain ⟨m4, b4⟩ := sf_mu tc s1 (by omega) (by omega)
  obtain ⟨m5, b5⟩ := sf_tw tc sf (sf_neg ts) sg (by omega) (by omega) (by omega) (by omega) (by omega) (by omega)
  obtain ⟨m6, b6⟩ := sf_tw ts sf tc sg (by omega) (by omega) (by omega) (by omega) (by omega) (by omega)
  obtain ⟨m7, b7⟩ := sf_mu b5 xS (by omega) (by omega)
  obtain ⟨m8, b8⟩ := sf_mu b6 xS (by omega) (by omega)
  have y1 := (q_mu tc.1 s0.1 m1).2
  have y2 := (q_mu (sf_neg ts).1 s1.1 m2).2
  have y3 := (q_mu ts.1 s0.1 m3).2
  have y4 := (q_mu tc.1 s1.1 m4).2
  have y5 := (q_tw tc.1 sf.1 (sf_neg ts).1 sg.1 m5).2
  have y6 := (q_tw ts.1 sf.1 tc.1 sg.1 m6).2
  have y7 := (q_mu b5.1 xS.1 m7).2
  have y8 := (q_mu b6.1 xS.1 m8).2
  rw [y5, xv, qA, q_neg] at y7
  rw [y6, xv, qA] at y8
  change qv (P 0) (P 1) = _ at x0
  change qv (P 2) (P 3) = _ at x1
  change qv (P 4) (P 5) = _ at x2
  obtain ⟨u1, u2, u3⟩ := okM_row _ oT'
  have D0 := fit_do u1 oP b1.1 b2.1 z01 b7.1 b7.1 y1 y2 (by rw [q_01]; exact (q_0v _ _).symm) (by show _ = qv (c_N r s) (c_D r s) * _ + qv (-(s_N r s)) (s_D r s) * _; rw [y7, q_neg, x0, x1]; grind) (by show _ = qv (c_N r s) (c_D r s) * _ + qv (-(s_N r s)) (s_D r s) * _ + qv 0 1 * _; rw [y7, q_neg, x0, x1, q_01]; grind)
  have D1 := fit_do u2 oP b3.1 b4.1 z01 b8.1 b8.1 y3 y4 (by rw [q_01]; exact (q_0v _ _).symm) (by show _ = qv (s_N r s) (s_D r s) * _ + qv (c_N r s) (c_D r s) * _; rw [y8, x0, x1]; grind) (by show _ = qv (s_N r s) (s_D r s) * _ + qv (c_N r s) (c_D r s) * _ + qv 0 1 * _; rw [y8, x0, x1, q_01]; grind)
  have D2 := do_z u3 oP s2.1 (q_0v _ _) (q_0v _ _) (by rw [show qv (tuN (2 : Int).toNat (c_N r s) (c_D r s) (s_N r s) (s_D r s) 16) (tuN (2 : Int).toNat (c_N r s) (c_D r s) (s_N r s) (s_D r s) 17) = 1 from q_11]; exact (Rat.one_mul _).symm)
  have e0 : apE (tuN (2 : Int).toNat (c_N r s) (c_D r s) (s_N r s) (s_D r s)) P = 0 := by
    rw [apE, if_pos ⟨oT', oP⟩]
    unfold apE0; rw [D0.2.2, D1.2.2, D2.2.2]; rfl
  rw [← eT] at e0
  exact ⟨e0, oP, c, k, _, _, _, _, cr, vT, oT, ck, fg, x0, x1, x2⟩
theorem g_refPlaced (n d p q : Int) (h : okC n d) (k : okC p q) (w : World) : Calls Try.prog 36 #[.agg #[.int .i64 n, .int .i64 d], .agg #[.int .i64 p, .int .i64 q]] w fun x w' => x = .returned (.bool (decide (pOk n d ∧ pOk p q ∧ -d ≤ n ∧ n ≤ d))) ∧ Below w.heap.size w w' := by
  have P1 := fun w => ref_Param n d (fun w => ref_Check n d h.1 h.2.1 h.2.2.1 h.2.2.2 w) w
  have P2 := fun w => ref_Param p q (fun w => ref_Check p q k.1 k.2.1 k.2.2.1 k.2.2.2 w) w
  by_cases a : pOk n d
  · rw [decide_eq_true a] at P1
    by_cases b : pOk p q
    · rw [decide_eq_true b] at P2
      obtain ⟨x1, x2, x3, x4, _⟩ := okF_out a.1
      have L1 := fun w => ref_Less 1 1 n d (by omega) (by omega) (by omega) (by omega) x3 x4 x1 x2 w
      have L2 := fun w => ref_Less n d (-1) 1 x3 x4 x1 x2 (by omega) (by omega) (by omega) (by omega) w
      by_cases c : 1 * d < n * 1
      · rw [decide_eq_true c] at L1
        rw [decide_eq_false (fun z => by have := z.2.2.2; omega)]
        exact rplaced_2 n d p q P1 P2 L1 w
      · rw [decide_eq_false c] at L1
        by_cases e : n * 1 < -1 * d
        · rw [decide_eq_true e] at L2
          rw [decide_eq_false (fun z => by have := z.2.2.1; omega)]
          exact rplaced_3 n d p q P1 P2 L1 L2 w
        · rw [decide_eq_false e] at L2
          rw [decide_eq_true ⟨a, b, by omega, by omega⟩]
          exact rplaced_4 n d p q P1 P2 L1 L2 w
    · rw [decide_eq_false b] at P2
      rw [decide_eq_false (fun z => b z.2.1)]
      exact rplaced_1 n d p q P1 P2 w
  · rw [decide_eq_false a] at P1
    rw [decide_eq_false (fun z => a z.1)]
    exact rplaced_0 n d p q P1 w
end Go.Proofs.Ytdolfdmgdknboaa
namespace Go.Proofs.Ytdolfdmgdknboaa
open Go.RowKit
set_option linter.unusedVariables false
set_option linter.unusedSimpArgs false

set_option maxRecDepth 100000 in
set_option maxHeartbeats 3200000 in
theorem geo_points_bad (A B : Int) (C : Nat → Int) (g cap m : Nat) (hm : m ≤ 2) (h0 : 0 < m) (CG : ∀ w : World, Calls Try.prog 28 #[.agg #[.int .i64 A, .int .i64 B]] w fun x w' => x = .returned (.int .i64 0) ∧ Below w.heap.size w w')
    (VK : ∀ i, i + 1 < m → ∀ w : World, Calls Try.prog 110 #[.agg #[.int .i64 (C (i * 6)), .int .i64 (C (i * 6 + 1)), .int .i64 (C (i * 6 + 2)), .int .i64 (C (i * 6 + 3)), .int .i64 (C (i * 6 + 4)), .int .i64 (C (i * 6 + 5))]] w fun x w' => x = .returned (.int .i64 0) ∧ Below w.heap.size w w')
    (VL : ∀ i, i + 1 = m → ∀ w : World, Calls Try.prog 110 #[.agg #[.int .i64 (C (i * 6)), .int .i64 (C (i * 6 + 1)), .int .i64 (C (i * 6 + 2)), .int .i64 (C (i * 6 + 3)), .int .i64 (C (i * 6 + 4)), .int .i64 (C (i * 6 + 5))]] w fun x w' => x = .returned (.int .i64 8) ∧ Below w.heap.size w w') (w : World) (hg : g < w.heap.size) (hc : ∀ o, o < 6 * m → w.cell? ⟨g, o, none⟩ = some (.int .i64 (C o))) :
    Calls Try.prog 71 #[.agg #[.int .i64 A, .int .i64 B], .slice (some ⟨g, 0, none⟩) m cap] w fun x w' => x = .returned (.int .i64 8) ∧ Below w.heap.size w w' := by
  have cC : Cs w g (6 * m) C := hc
  have HV := Lib.hid VK
  have HL := Lib.hid VL
  clear hc VK VL
  have dAl := dAl; have dSt := dSt; have xC := ext_cell; have xF := ext_frozen; have xS := ext_set; have xN := ext_drewN; have xD := ext_drew; have xL := ext_lt; have xE := ext_ne; have xG := ext_nr; have xX := ext_ext; have xL1 := ext_lt1; have xL2 := ext_lt2; have xL3 := ext_lt3; have xM0 := ext_le0; have xM1 := ext_le1; have xM2 := ext_le2
  go_enter Try.func71, Try.ntmps71
  go_wp2_with fail
  with_reducible refine (CG _).mono ?_
  rintro e v1 ⟨rfl, hb⟩
  have HBa : Below w.heap.size w v1 := bt (bal (b0 _) _) hb
  clear hb CG
  replace cC := cs_below cC HBa hg
  have zg : g < v1.heap.size := Nat.lt_of_lt_of_le hg HBa.size
  go_wp2_with fail
  go_loopg [16] m (fun kk s16 wr => ∃ i : Nat, kk = m - i ∧ s16 = .int .i64 i ∧ i < m ∧ Cs wr g (6 * m) C ∧ g < wr.heap.size ∧ Below w.heap.size w wr)
  case atStart => exact ⟨0, rfl, rfl, by omega, cC, zg, HBa⟩
  case round =>
    obtain ⟨i, rfl, rfl, him, cR, zr, hbr⟩ := hrel
    clear cC zg HBa
    have e0 := cR (i * 6) (by omega)
    have e1 := cR (i * 6 + 1) (by omega)
    have e2 := cR (i * 6 + 2) (by omega)
    have e3 := cR (i * 6 + 3) (by omega)
    have e4 := cR (i * 6 + 4) (by omega)
    have e5 := cR (i * 6 + 5) (by omega)
    have zi : (i : Int) < (m : Int) := by omega
    by_cases hi : i + 1 < m
    · have A0 := HV.out i hi
      have CR := Lib.hid cR
      clear cR HV HL
      generalize C (i * 6) = c0 at *
      generalize C (i * 6 + 1) = c1 at *
      generalize C (i * 6 + 2) = c2 at *
      generalize C (i * 6 + 3) = c3 at *
      generalize C (i * 6 + 4) = c4 at *
      generalize C (i * 6 + 5) = c5 at *
      go_wp2_with fail
      with_reducible refine (A0 _).mono ?_
      rintro e v0 ⟨rfl, hb⟩
      obtain ⟨l0, d0, rfl⟩ := toExt hb
      clear hb
      go_wp2
      go_roundg (m - (i + 1))
      case measure => omega
      case rel => exact ⟨i + 1, by omega, by go_num, by omega, by (repeat (first | with_reducible exact CR.out | with_reducible refine cs_drewN ?_ | with_reducible refine cs_drew ?_ | with_reducible refine cs_ext ?_ (by first | omega | (simp [ext_size, World.setCell] <;> omega)) _ _ | with_reducible refine cs_alloc _ ?_ (by first | omega | (simp [ext_size, World.setCell] <;> omega)) | with_reducible refine cs_up ?_ (by decide) | with_reducible refine cs_set _ ?_ (by first | omega | (simp <;> omega)))), by (first | omega | (simp [ext_size, World.setCell] <;> omega)), by (repeat (first | with_reducible exact hbr | (with_reducible refine bext ?_ _ _) | (with_reducible refine below_drewN ?_ _) | (with_reducible refine Below.drew ?_) | (with_reducible refine bal ?_ _) | (with_reducible refine bset ?_ (by first | omega | (simp <;> omega)) _)))⟩
    · have A0 := HL.out i (by omega)
      clear cR HV HL
      generalize C (i * 6) = c0 at *
      generalize C (i * 6 + 1) = c1 at *
      generalize C (i * 6 + 2) = c2 at *
      generalize C (i * 6 + 3) = c3 at *
      generalize C (i * 6 + 4) = c4 at *
      generalize C (i * 6 + 5) = c5 at *
      go_wp2_with fail
      with_reducible refine (A0 _).mono ?_
      rintro e v0 ⟨rfl, hb⟩
      obtain ⟨l0, d0, rfl⟩ := toExt hb
      clear hb
      go_wp2
      go_ret
      exact ⟨rfl, by (repeat (first | with_reducible exact hbr | (with_reducible refine bext ?_ _ _) | (with_reducible refine below_drewN ?_ _) | (with_reducible refine Below.drew ?_) | (with_reducible refine bal ?_ _) | (with_reducible refine bset ?_ (by first | omega | (simp <;> omega)) _)))⟩
set_option maxRecDepth 100000 in
set_option maxHeartbeats 3200000 in
theorem geo_Inside_c (P : Nat → Int) (A B e : Int) (he : (e == 0) = false) (CK : ∀ (W : World) (gg : Nat), gg < W.heap.size → (∀ o, o < 6 → W.cell? ⟨gg, o, none⟩ = some (.int .i64 (P o))) → Calls Try.prog 71 #[.agg #[.int .i64 A, .int .i64 B], .slice (some ⟨gg, 0, none⟩) 1 1] W fun x w' => x = .returned (.int .i64 e) ∧ Below W.heap.size W w') (w : World) :
    Calls Try.prog 26 #[.agg #[.int .i64 A, .int .i64 B], .agg #[.int .i64 (P 0), .int .i64 (P 1), .int .i64 (P 2), .int .i64 (P 3), .int .i64 (P 4), .int .i64 (P 5)]] w fun x w' => x = .returned (.tuple #[.int .i64 0, .int .i64 e]) ∧ Below w.heap.size w w' := by
  have dAl := dAl; have dSt := dSt
  go_enter Try.func26, Try.ntmps26
  go_upto_region 1 with fail
  refine opq (fun wx => Cs wx (w.heap.size) 2 (fg2 A B) ∧ Cs wx (w.heap.size + 1) 6 P ∧ w.heap.size + 1 < wx.heap.size ∧ Below w.heap.size w wx) ?_ ?_
  · exact ⟨cs_alloc _ (cs_new (by simp) (arg2 A B)) (by simp <;> omega), cs_new (by simp) (arrV P), by simp, by (repeat (first | with_reducible exact b0 _ | (with_reducible refine bext ?_ _ _) | (with_reducible refine below_drewN ?_ _) | (with_reducible refine Below.drew ?_) | (with_reducible refine bal ?_ _)))⟩
  rintro w0 ⟨c0, c1, zs, HBa⟩
  have i0 : fg2 A B 0 = A := rfl
  have i1 : fg2 A B 1 = B := rfl
  have hc0 : ∀ o, o < 2 → w0.cell? ⟨w.heap.size, o, none⟩ = some (.int .i64 ((fg2 A B) o)) := c0
  have hc1 : ∀ o, o < 6 → w0.cell? ⟨w.heap.size + 1, o, none⟩ = some (.int .i64 (P o)) := c1
  go_wp2_with fail
  with_reducible refine (CK _ _ ?_ ?_).mono ?_
  · simp
  · exact cs_new (by simp) (arrV P)
  rintro e v1 ⟨rfl, hb⟩
  replace hb := bt (bal (b0 _) _) hb
  clear hc0 hc1
  replace HBa := HBa.trans (hb.mono (by first | omega | exact HBa.size))
  clear hb
  clear c0
  clear c1
  go_wp2
  refine bodyPost_ret (by simp [results, Try.results26, go_sem, ext_cell, World.cell?_alloc_past, ltk2, ltk3, ltk4, ltk5, ltk6, ltk7, ltk8, ltk9, *]; try rfl) rfl ?_
  exact ⟨rfl, by (repeat (first | with_reducible exact HBa | (with_reducible refine bextm ?_ (by first | omega | (simp [ext_size, World.setCell] <;> omega)) _ _) | (with_reducible refine below_drewN ?_ _) | (with_reducible refine Below.drew ?_) | (with_reducible refine Below.alloc ?_ (by first | omega | (simp [ext_size, World.setCell] <;> omega)) _) | (with_reducible refine Below.setCell ?_ (by first | omega | (simp [ext_size, World.setCell] <;> omega)) _)))⟩
set_option maxRecDepth 100000 in
set_option maxHeartbeats 3200000 in
theorem geo_Side_c (P Q : Nat → Int) (A B e : Int) (he : (e == 0) = false) (CK : ∀ (W : World) (gg : Nat), gg < W.heap.size → (∀ o, o < 12 → W.cell? ⟨gg, o, none⟩ = some (.int .i64 (pq P Q o))) → Calls Try.prog 71 #[.agg #[.int .i64 A, .int .i64 B], .slice (some ⟨gg, 0, none⟩) 2 2] W fun x w' => x = .returned (.int .i64 e) ∧ Below W.heap.size W w') (w : World) :
    Calls Try.prog 34 #[.agg #[.int .i64 A, .int .i64 B], .agg #[.int .i64 (P 0), .int .i64 (P 1), .int .i64 (P 2), .int .i64 (P 3), .int .i64 (P 4), .int .i64 (P 5)], .agg #[.int .i64 (Q 0), .int .i64 (Q 1), .int .i64 (Q 2), .int .i64 (Q 3), .int .i64 (Q 4), .int .i64 (Q 5)]] w fun x w' => x = .returned (.tuple #[.int .i64 0, .int .i64 e]) ∧ Below w.heap.size w w' := by
  have dAl := dAl; have dSt := dSt
  go_enter Try.func34, Try.ntmps34
  go_upto_region 1 with fail
  refine opq (fun wx => Cs wx (w.heap.size) 2 (fg2 A B) ∧ Cs wx (w.heap.size + 1) 6 P ∧ Cs wx (w.heap.size + 1 + 1) 6 Q ∧ w.heap.size + 1 + 1 < wx.heap.size ∧ Below w.heap.size w wx) ?_ ?_
  · exact ⟨cs_alloc _ (cs_alloc _ (cs_new (by simp) (arg2 A B)) (by simp <;> omega)) (by simp <;> omega), cs_alloc _ (cs_new (by simp) (arrV P)) (by simp <;> omega), cs_new (by simp) (arrV Q), by simp, by (repeat (first | with_reducible exact b0 _ | (with_reducible refine bext ?_ _ _) | (with_reducible refine below_drewN ?_ _) | (with_reducible refine Below.drew ?_) | (with_reducible refine bal ?_ _)))⟩
  rintro w0 ⟨c0, c1, c2, zs, HBa⟩
  have i0 : fg2 A B 0 = A := rfl
  have i1 : fg2 A B 1 = B := rfl
  have hc0 : ∀ o, o < 2 → w0.cell? ⟨w.heap.size, o, none⟩ = some (.int .i64 ((fg2 A B) o)) := c0
  have hc1 : ∀ o, o < 6 → w0.cell? ⟨w.heap.size + 1, o, none⟩ = some (.int .i64 (P o)) := c1
  have hc2 : ∀ o, o < 6 → w0.cell? ⟨w.heap.size + 1 + 1, o, none⟩ = some (.int .i64 (Q o)) := c2
  go_wp2_with fail
  with_reducible refine (CK _ _ ?_ ?_).mono ?_
  · simp
  · exact cs_new (by simp) (arrPQ P Q)
  rintro e v1 ⟨rfl, hb⟩
  replace hb := bt (bal (b0 _) _) hb
  clear hc0 hc1 hc2
  replace HBa := HBa.trans (hb.mono (by first | omega | exact HBa.size))
  clear hb
  clear c0 c1 c2
  go_wp2
  refine bodyPost_ret (by simp [results, Try.results34, go_sem, ext_cell, World.cell?_alloc_past, ltk2, ltk3, ltk4, ltk5, ltk6, ltk7, ltk8, ltk9, *]; try rfl) rfl ?_
  exact ⟨rfl, HBa⟩
theorem g_vCheck_bad {P : Nat → Int} (cP : okCW P) (oP : ¬ okW P) (w : World) : Calls Try.prog 110 #[.agg #[.int .i64 (P 0), .int .i64 (P 1), .int .i64 (P 2), .int .i64 (P 3), .int .i64 (P 4), .int .i64 (P 5)]] w fun x w' => x = .returned (.int .i64 8) ∧ Below w.heap.size w w' := by
  have h := vec_Check (P 0) (P 1) (P 2) (P 3) (P 4) (P 5) cP.1 cP.2.1 cP.2.2 w
  rw [show chV (P 0) (P 1) (P 2) (P 3) (P 4) (P 5) = 8 from if_neg oP] at h
  exact h
theorem g_Inside_bad {A B : Int} {P : Nat → Int} (hG : gOk A B) (cP : okCW P) (oP : ¬ okW P) (w : World) :
    Calls Try.prog 26 #[.agg #[.int .i64 A, .int .i64 B], .agg #[.int .i64 (P 0), .int .i64 (P 1), .int .i64 (P 2), .int .i64 (P 3), .int .i64 (P 4), .int .i64 (P 5)]] w fun x w' => x = .returned (.tuple #[.int .i64 0, .int .i64 8]) ∧ Below w.heap.size w w' := by
  refine geo_Inside_c P A B 8 rfl (fun W gg h1 h2 => ?_) w
  refine geo_points_bad A B P gg 1 1 (by omega) (by omega) (fun w => g_Check hG w) (fun i hi w => absurd hi (by omega)) (fun i hi w => ?_) W h1 h2
  obtain rfl : i = 0 := by omega
  exact g_vCheck_bad cP oP w
theorem g_Side_bad {A B : Int} {P Q : Nat → Int} (hG : gOk A B) (oP : okW P) (cQ : okCW Q) (oQ : ¬ okW Q) (w : World) :
    Calls Try.prog 34 #[.agg #[.int .i64 A, .int .i64 B], .agg #[.int .i64 (P 0), .int .i64 (P 1), .int .i64 (P 2), .int .i64 (P 3), .int .i64 (P 4), .int .i64 (P 5)], .agg #[.int .i64 (Q 0), .int .i64 (Q 1), .int .i64 (Q 2), .int .i64 (Q 3), .int .i64 (Q 4), .int .i64 (Q 5)]] w fun x w' => x = .returned (.tuple #[.int .i64 0, .int .i64 8]) ∧ Below w.heap.size w w' := by
  refine geo_Side_c P Q A B 8 rfl (fun W gg h1 h2 => ?_) w
  refine geo_points_bad A B (pq P Q) gg 2 2 (by omega) (by omega) (fun w => g_Check hG w) (fun i hi w => ?_) (fun i hi w => ?_) W h1 h2
  · obtain rfl : i = 0 := by omega
    exact g_vCheck oP w
  · obtain rfl : i = 1 := by omega
    exact g_vCheck_bad cQ oQ w
end Go.Proofs.Ytdolfdmgdknboaa
namespace Go.Proofs.Ytdolfdmgdknboaa
open Go.RowKit
set_option linter.unusedVariables false
set_option linter.unusedSimpArgs false

theorem u_le {a b c x y z : Rat} (h : a * a + b * b + c * c = 1) (k : x * x + y * y + z * z = 1) : a * x + b * y + c * z ≤ 1 := by
  have i1 := q_sq (a - x)
  have i2 := q_sq (b - y)
  have i3 := q_sq (c - z)
  grind
theorem u_lt {a b c x y z : Rat} (h : a * a + b * b + c * c = 1) (k : x * x + y * y + z * z < 1) : a * x + b * y + c * z < 1 := by
  have i1 := q_sq (a - x)
  have i2 := q_sq (b - y)
  have i3 := q_sq (c - z)
  grind
theorem sq_0 {x : Rat} (h : x * x = 0) : x = 0 := by
  rcases Rat.mul_eq_zero.1 h with k | k <;> exact k
theorem u_eq {a b c x y z : Rat} (h : a * a + b * b + c * c = 1) (k : x * x + y * y + z * z = 1) (e : a * x + b * y + c * z = 1) : a = x ∧ b = y ∧ c = z := by
  have i1 := q_sq (a - x)
  have i2 := q_sq (b - y)
  have i3 := q_sq (c - z)
  have s : (a - x) * (a - x) + (b - y) * (b - y) + (c - z) * (c - z) = 0 := by grind
  have z1 := sq_0 (x := a - x) (by grind)
  have z2 := sq_0 (x := b - y) (by grind)
  have z3 := sq_0 (x := c - z) (by grind)
  exact ⟨by grind, by grind, by grind⟩
theorem q_lt1 {n d : Int} (hd : 1 ≤ d) : qv n d < 1 ↔ n < d := by
  have p : (0 : Rat) < (d : Rat) := by exact_mod_cast (show (0 : Int) < d by omega)
  have e : qv n d * (d : Rat) = (n : Rat) := by rw [q_div]; grind
  constructor
  · intro h
    have m := Rat.mul_pos (show (0 : Rat) < 1 - qv n d by grind) p
    have l : (n : Rat) < (d : Rat) := by grind
    exact_mod_cast l
  · intro h
    apply Classical.byContradiction
    intro k
    have m := Rat.mul_nonneg (show (0 : Rat) ≤ qv n d - 1 by grind) (show (0 : Rat) ≤ (d : Rat) by grind)
    have l : (n : Rat) < (d : Rat) := by exact_mod_cast h
    grind
theorem cm_sign {P Q : Nat → Int} (e : dtW P Q = 0) {v : Rat} (h : vv P 0 * vv Q 0 + vv P 1 * vv Q 1 + vv P 2 * vv Q 2 = v) : (v = 1 → cmW P Q = 0) ∧ (v < 1 → cmW P Q = -1) ∧ (cmW P Q < 0 → v < 1) := by
  obtain ⟨a1, a2⟩ := dt_in (dtW_ok e).1 (dtW_ok e).2 e
  have a3 := a2.trans h
  unfold cmW
  generalize dtN (P 0) (P 1) (P 2) (P 3) (P 4) (P 5) (Q 0) (Q 1) (Q 2) (Q 3) (Q 4) (Q 5) = N at *
  generalize dtD (P 0) (P 1) (P 2) (P 3) (P 4) (P 5) (Q 0) (Q 1) (Q 2) (Q 3) (Q 4) (Q 5) = D at *
  have d1 := (okF_out a1).1
  have o : okF N D = true ∧ okF 1 1 = true := ⟨a1, by decide⟩
  refine ⟨fun k => ?_, fun k => ?_, fun k => ?_⟩
  · obtain ⟨c1, c2⟩ := q_inj a1 (show okF 1 1 = true by decide) (by rw [a3, q_11]; exact k)
    rw [c1, c2]; decide
  · have l := (q_lt1 (n := N) d1).1 (by rw [a3]; exact k)
    rw [coV, if_pos o]
    unfold cmpI
    split <;> first | rfl | omega | (split <;> first | rfl | omega)
  · rw [coV, if_pos o] at k
    rw [← a3]
    refine (q_lt1 d1).2 ?_
    unfold cmpI at k
    split at k <;> first | omega | (split at k <;> omega)
theorem q_1sq {a : Int} (h : a ≠ 0) : qv 1 (a * a) = qv 1 a * qv 1 a := by
  have := cast_ne h
  rw [q_div, q_div, Rat.intCast_mul, show ((1 : Int) : Rat) = 1 from rfl]
  grind
theorem q_1c {a : Int} (h : a ≠ 0) : qv 1 a * (a : Rat) = 1 := by
  have := cast_ne h
  rw [q_div, show ((1 : Int) : Rat) = 1 from rfl]
  grind
theorem dt_eq {P Q R S : Nat → Int} (h : ∀ o, o < 6 → P o = R o) (k : ∀ o, o < 6 → Q o = S o) : dtW P Q = dtW R S ∧ cmW P Q = cmW R S := by
  unfold dtW cmW
  rw [h 0 (by omega), h 1 (by omega), h 2 (by omega), h 3 (by omega), h 4 (by omega), h 5 (by omega), k 0 (by omega), k 1 (by omega), k 2 (by omega), k 3 (by omega), k 4 (by omega), k 5 (by omega)]
  exact ⟨rfl, rfl⟩
theorem dt_fit {P Q : Nat → Int} (oP : okW P) (oQ : okW Q) (h : doE (P 0) (P 1) (P 2) (P 3) (P 4) (P 5) (Q 0) (Q 1) (Q 2) (Q 3) (Q 4) (Q 5) = 0) : dtW P Q = 0 := by
  have q : okV (P 0) (P 1) (P 2) (P 3) (P 4) (P 5) = true ∧ okV (Q 0) (Q 1) (Q 2) (Q 3) (Q 4) (Q 5) = true := ⟨oP, oQ⟩
  unfold dtW dtE
  rw [if_pos q]; exact h
def scl (A B : Int) (P : Nat → Int) : Nat → Rat := fun i => (if i = 2 then qv 1 B else qv 1 A) * vv P i
/-- A place lies on the globe, and in its own horizon; nothing is out of range. -/
theorem place {A B n d p q : Int} (hG : gOk A B) (o1 : pOk n d) (b1 : -d ≤ n) (b2 : n ≤ d) (o2 : pOk p q) :
    okW (atR A B n d p q) ∧ inE A B (atR A B n d p q) = 0 ∧ inN A B (atR A B n d p q) = 0 ∧ apE (dgM (A * A) (B * B)) (atR A B n d p q) = 0 ∧ dtW (nrm A B (atR A B n d p q)) (atR A B n d p q) = 0 ∧
    scl A B (atR A B n d p q) 0 * scl A B (atR A B n d p q) 0 + scl A B (atR A B n d p q) 1 * scl A B (atR A B n d p q) 1 + scl A B (atR A B n d p q) 2 * scl A B (atR A B n d p q) 2 = 1 := by
  obtain ⟨g1, g2, g3, g4⟩ := gOk_in hG
  have u := mul_up (show 0 ≤ A by omega) g2 (show 0 ≤ A by omega) g2
  have v := mul_up (show 0 ≤ B by omega) g4 (show 0 ≤ B by omega) g4
  have u' := Int.mul_pos (show 0 < A by omega) (show 0 < A by omega)
  have v' := Int.mul_pos (show 0 < B by omega) (show 0 < B by omega)
  obtain ⟨eA, c1, c2, k1, k2, f1, f2, h1, h2, sc, sk, ck, sf, sg, fg, s0, s1, s2, x0, x1, x2⟩ := at_val hG o1 b1 b2 o2
  have oP : okW (atR A B n d p q) := okW_of s0.1 s1.1 s2.1
  generalize atR A B n d p q = P at *
  have iA := q_1c (a := A) (by omega)
  have iB := q_1c (a := B) (by omega)
  have jA := q_1sq (a := A) (by omega)
  have jB := q_1sq (a := B) (by omega)
  obtain ⟨e1, w1⟩ := sf_mu sf sc (by omega) (by omega)
  obtain ⟨e2, w2⟩ := sf_mu sg sc (by omega) (by omega)
  obtain ⟨e3, w3⟩ := sf_mu w1 w1 (by omega) (by omega)
  obtain ⟨e4, w4⟩ := sf_mu w2 w2 (by omega) (by omega)
  obtain ⟨e5, w5⟩ := sf_mu sk sk (by omega) (by omega)
  obtain ⟨e6, w6⟩ := sf_mu sc sc (by omega) (by omega)
  have z1 := (q_mu sf.1 sc.1 e1).2
  have z2 := (q_mu sg.1 sc.1 e2).2
  have z3 := (q_mu w1.1 w1.1 e3).2
  have z4 := (q_mu w2.1 w2.1 e4).2
  have z5 := (q_mu sk.1 sk.1 e5).2
  have z6 := (q_mu sc.1 sc.1 e6).2
  have oR : okW (fg6 (muN f1 f2 c1 c2) (muD f1 f2 c1 c2) (muN h1 h2 c1 c2) (muD h1 h2 c1 c2) k1 k2) := okW_of w1.1 w2.1 sk.1
  obtain ⟨eR, rR⟩ := dg_fit (a := A) (b := B) (V := P) (by omega) (by omega) (by omega) (by omega) oP oR (by show qv (muN f1 f2 c1 c2) (muD f1 f2 c1 c2) = _; rw [z1, x0]; grind) (by show qv (muN h1 h2 c1 c2) (muD h1 h2 c1 c2) = _; rw [z2, x1]; grind) (by show qv k1 k2 = _; rw [x2]; grind)
  have D1 := fit_do oR oR w3.1 w4.1 w5.1 w6.1 (show okF 1 1 = true by decide) z3 z4 z5 (by show _ = qv (muN f1 f2 c1 c2) (muD f1 f2 c1 c2) * qv (muN f1 f2 c1 c2) (muD f1 f2 c1 c2) + qv (muN h1 h2 c1 c2) (muD h1 h2 c1 c2) * qv (muN h1 h2 c1 c2) (muD h1 h2 c1 c2); rw [z6, z1, z2]; grind) (by show _ = qv (muN f1 f2 c1 c2) (muD f1 f2 c1 c2) * qv (muN f1 f2 c1 c2) (muD f1 f2 c1 c2) + qv (muN h1 h2 c1 c2) (muD h1 h2 c1 c2) * qv (muN h1 h2 c1 c2) (muD h1 h2 c1 c2) + qv k1 k2 * qv k1 k2; rw [z1, z2, q_11]; grind)
  have T1 := dt_fit oR oR D1.2.2
  have E1 := dt_eq (P := rel A B P) (Q := rel A B P) rR rR
  have N1 : cmW (fg6 (muN f1 f2 c1 c2) (muD f1 f2 c1 c2) (muN h1 h2 c1 c2) (muD h1 h2 c1 c2) k1 k2) (fg6 (muN f1 f2 c1 c2) (muD f1 f2 c1 c2) (muN h1 h2 c1 c2) (muD h1 h2 c1 c2) k1 k2) = 0 := cm_one T1 (by show qv (muN f1 f2 c1 c2) (muD f1 f2 c1 c2) * qv (muN f1 f2 c1 c2) (muD f1 f2 c1 c2) + qv (muN h1 h2 c1 c2) (muD h1 h2 c1 c2) * qv (muN h1 h2 c1 c2) (muD h1 h2 c1 c2) + qv k1 k2 * qv k1 k2 = 1; rw [z1, z2]; grind)
  have I1 : inE A B P = 0 := by rw [inE, if_pos eR, E1.1]; exact T1
  have I2 : inN A B P = 0 := by rw [inN, if_pos eR, if_pos (E1.1.trans T1), E1.2]; exact N1
  have qa : SF 1 (A * A) 1 1000000 := ⟨okF_1 (by omega) (by omega), by omega, by omega, by omega⟩
  have qb : SF 1 (B * B) 1 1000000 := ⟨okF_1 (by omega) (by omega), by omega, by omega, by omega⟩
  obtain ⟨m0, t0⟩ := sf_mu qa s0 (by omega) (by omega)
  obtain ⟨m1, t1⟩ := sf_mu qa s1 (by omega) (by omega)
  obtain ⟨m2, t2⟩ := sf_mu qb s2 (by omega) (by omega)
  have y0 := (q_mu qa.1 s0.1 m0).2
  have y1 := (q_mu qa.1 s1.1 m1).2
  have y2 := (q_mu qb.1 s2.1 m2).2
  have oN : okW (fg6 (muN 1 (A * A) (P 0) (P 1)) (muD 1 (A * A) (P 0) (P 1)) (muN 1 (A * A) (P 2) (P 3)) (muD 1 (A * A) (P 2) (P 3)) (muN 1 (B * B) (P 4) (P 5)) (muD 1 (B * B) (P 4) (P 5))) := okW_of t0.1 t1.1 t2.1
  obtain ⟨eN, rN⟩ := dg_fit (a := A * A) (b := B * B) (V := P) (by omega) (by omega) (by omega) (by omega) oP oN y0 y1 y2
  rw [z1] at z3
  rw [z2] at z4
  change qv (P 0) (P 1) = _ at x0
  change qv (P 2) (P 3) = _ at x1
  change qv (P 4) (P 5) = _ at x2
  rw [jA] at y0 y1
  rw [jB] at y2
  have DF := fit_do oN oP w3.1 w4.1 w5.1 w6.1 (show okF 1 1 = true by decide) (by show _ = qv (muN 1 (A * A) (P 0) (P 1)) (muD 1 (A * A) (P 0) (P 1)) * _; rw [y0, z3, x0]; grind) (by show _ = qv (muN 1 (A * A) (P 2) (P 3)) (muD 1 (A * A) (P 2) (P 3)) * _; rw [y1, z4, x1]; grind) (by show _ = qv (muN 1 (B * B) (P 4) (P 5)) (muD 1 (B * B) (P 4) (P 5)) * _; rw [y2, z5, x2]; grind)
    (by show _ = qv (muN 1 (A * A) (P 0) (P 1)) (muD 1 (A * A) (P 0) (P 1)) * _ + qv (muN 1 (A * A) (P 2) (P 3)) (muD 1 (A * A) (P 2) (P 3)) * _; rw [y0, y1, z6, x0, x1]; grind) (by show _ = qv (muN 1 (A * A) (P 0) (P 1)) (muD 1 (A * A) (P 0) (P 1)) * _ + qv (muN 1 (A * A) (P 2) (P 3)) (muD 1 (A * A) (P 2) (P 3)) * _ + qv (muN 1 (B * B) (P 4) (P 5)) (muD 1 (B * B) (P 4) (P 5)) * _; rw [y0, y1, y2, x0, x1, x2, q_11]; grind)
  have T2 := dt_fit oN oP DF.2.2
  have E2 := dt_eq (P := nrm A B P) (Q := P) (S := P) rN (fun _ _ => rfl)
  refine ⟨oP, I1, I2, eN, E2.1.trans T2, ?_⟩
  show qv 1 A * qv (P 0) (P 1) * (qv 1 A * qv (P 0) (P 1)) + qv 1 A * qv (P 2) (P 3) * (qv 1 A * qv (P 2) (P 3)) + qv 1 B * qv (P 4) (P 5) * (qv 1 B * qv (P 4) (P 5)) = 1
  rw [x0, x1, x2]; grind
/-- The side of a point for a place. -/
theorem side_val {A B : Int} {P Q : Nat → Int} (hG : gOk A B) (oP : okW P) (e : apE (dgM (A * A) (B * B)) P = 0) (z : dtW (nrm A B P) Q = 0) : vv (nrm A B P) 0 * vv Q 0 + vv (nrm A B P) 1 * vv Q 1 + vv (nrm A B P) 2 * vv Q 2 = scl A B P 0 * scl A B Q 0 + scl A B P 1 * scl A B Q 1 + scl A B P 2 * scl A B Q 2 := by
  obtain ⟨g1, g2, g3, g4⟩ := gOk_in hG
  have u := mul_up (show 0 ≤ A by omega) g2 (show 0 ≤ A by omega) g2
  have v := mul_up (show 0 ≤ B by omega) g4 (show 0 ≤ B by omega) g4
  have u' := Int.mul_pos (show 0 < A by omega) (show 0 < A by omega)
  have v' := Int.mul_pos (show 0 < B by omega) (show 0 < B by omega)
  obtain ⟨_, r0, r1, r2⟩ := dg_val (a := A * A) (b := B * B) (by omega) (by omega) (by omega) (by omega) oP e
  unfold nrm
  rw [r0, r1, r2, q_1sq (a := A) (by omega), q_1sq (a := B) (by omega)]
  show _ = qv 1 A * vv P 0 * (qv 1 A * vv Q 0) + qv 1 A * vv P 1 * (qv 1 A * vv Q 1) + qv 1 B * vv P 2 * (qv 1 B * vv Q 2)
  grind
end Go.Proofs.Ytdolfdmgdknboaa
namespace Go.Proofs.Ytdolfdmgdknboaa
open Go.RowKit
set_option linter.unusedVariables false
set_option linter.unusedSimpArgs false

set_option maxRecDepth 100000 in
set_option maxHeartbeats 16000000 in
theorem gtouch_out_0 (Q : Nat → Int) (A B n d p q n' d' p' q' : Int) (H0 : ∀ w : World, Calls Try.prog 29 #[.agg #[.int .i64 A, .int .i64 B]] w fun x w' => x = .returned (.int .i64 2) ∧ Below w.heap.size w w') (HA : ∀ w : World, Calls Try.prog 37 #[] w fun x w' => x = .returned (.bool true) ∧ Below w.heap.size w w') (w : World) :
    Calls Try.prog 7 #[.agg #[.int .i64 A, .int .i64 B], .agg #[.int .i64 n, .int .i64 d], .agg #[.int .i64 p, .int .i64 q], .agg #[.int .i64 (n'), .int .i64 (d')], .agg #[.int .i64 (p'), .int .i64 (q')], .agg #[.int .i64 (Q 0), .int .i64 (Q 1), .int .i64 (Q 2), .int .i64 (Q 3), .int .i64 (Q 4), .int .i64 (Q 5)]] w fun x w' => x = .returned (.bool true) ∧ Below w.heap.size w w' := by
  have S0 := Lib.hid H0
  have AL := Lib.hid HA
  clear HA H0
  have dAl := dAl; have dSt := dSt
  go_enter Try.func7, Try.ntmps7
  go_upto_region 1 with fail
  refine opq (fun wx => Cs wx (w.heap.size) 2 (fg2 A B) ∧ Cs wx (w.heap.size + 1) 2 (fg2 n d) ∧ Cs wx (w.heap.size + 1 + 1) 2 (fg2 p q) ∧ Cs wx (w.heap.size + 1 + 1 + 1) 2 (fg2 n' d') ∧ Cs wx (w.heap.size + 1 + 1 + 1 + 1) 2 (fg2 p' q') ∧ Cs wx (w.heap.size + 1 + 1 + 1 + 1 + 1) 6 (Q) ∧ w.heap.size + 1 + 1 + 1 + 1 + 1 < wx.heap.size ∧ Below w.heap.size w wx) ?_ ?_
  · exact ⟨cs_alloc _ (cs_alloc _ (cs_alloc _ (cs_alloc _ (cs_alloc _ (cs_new (by simp) (arg2 A B)) (by simp <;> omega)) (by simp <;> omega)) (by simp <;> omega)) (by simp <;> omega)) (by simp <;> omega), cs_alloc _ (cs_alloc _ (cs_alloc _ (cs_alloc _ (cs_new (by simp) (arg2 n d)) (by simp <;> omega)) (by simp <;> omega)) (by simp <;> omega)) (by simp <;> omega), cs_alloc _ (cs_alloc _ (cs_alloc _ (cs_new (by simp) (arg2 p q)) (by simp <;> omega)) (by simp <;> omega)) (by simp <;> omega), cs_alloc _ (cs_alloc _ (cs_new (by simp) (arg2 n' d')) (by simp <;> omega)) (by simp <;> omega), cs_alloc _ (cs_new (by simp) (arg2 p' q')) (by simp <;> omega), cs_new (by simp) (arrV Q), by simp, by (repeat (first | with_reducible exact b0 _ | (with_reducible refine bext ?_ _ _) | (with_reducible refine below_drewN ?_ _) | (with_reducible refine Below.drew ?_) | (with_reducible refine bal ?_ _)))⟩
  rintro w0 ⟨cG, cS, cT, cU, cV, cQ, zs, HBa⟩
  have hG : ∀ o, o < 2 → w0.cell? ⟨w.heap.size, o, none⟩ = some (.int .i64 (fg2 A B o)) := cG
  have hS : ∀ o, o < 2 → w0.cell? ⟨w.heap.size + 1, o, none⟩ = some (.int .i64 (fg2 n d o)) := cS
  have hT : ∀ o, o < 2 → w0.cell? ⟨w.heap.size + 1 + 1, o, none⟩ = some (.int .i64 (fg2 p q o)) := cT
  have hU : ∀ o, o < 2 → w0.cell? ⟨w.heap.size + 1 + 1 + 1, o, none⟩ = some (.int .i64 (fg2 n' d' o)) := cU
  have hV : ∀ o, o < 2 → w0.cell? ⟨w.heap.size + 1 + 1 + 1 + 1, o, none⟩ = some (.int .i64 (fg2 p' q' o)) := cV
  have hQ : ∀ o, o < 6 → w0.cell? ⟨w.heap.size + 1 + 1 + 1 + 1 + 1, o, none⟩ = some (.int .i64 (Q o)) := cQ
  have i0 : fg2 A B 0 = A := rfl
  have i1 : fg2 A B 1 = B := rfl
  have i2 : fg2 n d 0 = n := rfl
  have i3 : fg2 n d 1 = d := rfl
  have i4 : fg2 p q 0 = p := rfl
  have i5 : fg2 p q 1 = q := rfl
  have i6 : fg2 n' d' 0 = n' := rfl
  have i7 : fg2 n' d' 1 = d' := rfl
  have i8 : fg2 p' q' 0 = p' := rfl
  have i9 : fg2 p' q' 1 = q' := rfl
  go_wp2_with fail
  with_reducible refine (S0.out _).mono ?_
  rintro e v0 ⟨rfl, hb⟩
  clear hG hS hT hU hV hQ
  replace cG := cs_below cG hb (by omega)
  replace cS := cs_below cS hb (by omega)
  replace cT := cs_below cT hb (by omega)
  replace cU := cs_below cU hb (by omega)
  replace cV := cs_below cV hb (by omega)
  replace cQ := cs_below cQ hb (by omega)
  replace HBa := HBa.trans (hb.mono (by omega))
  replace zs := Nat.lt_of_lt_of_le zs hb.size
  clear hb
  have hG : ∀ o, o < 2 → v0.cell? ⟨w.heap.size, o, none⟩ = some (.int .i64 (fg2 A B o)) := cG
  have hS : ∀ o, o < 2 → v0.cell? ⟨w.heap.size + 1, o, none⟩ = some (.int .i64 (fg2 n d o)) := cS
  have hT : ∀ o, o < 2 → v0.cell? ⟨w.heap.size + 1 + 1, o, none⟩ = some (.int .i64 (fg2 p q o)) := cT
  have hU : ∀ o, o < 2 → v0.cell? ⟨w.heap.size + 1 + 1 + 1, o, none⟩ = some (.int .i64 (fg2 n' d' o)) := cU
  have hV : ∀ o, o < 2 → v0.cell? ⟨w.heap.size + 1 + 1 + 1 + 1, o, none⟩ = some (.int .i64 (fg2 p' q' o)) := cV
  have hQ : ∀ o, o < 6 → v0.cell? ⟨w.heap.size + 1 + 1 + 1 + 1 + 1, o, none⟩ = some (.int .i64 (Q o)) := cQ
  go_wp2_with fail
  with_reducible refine (AL.out _).mono ?_
  rintro e z1 ⟨rfl, hb⟩
  go_wp2_with fail
  go_ret
  exact ⟨rfl, HBa.trans (hb.mono (by omega))⟩
set_option maxRecDepth 100000 in
set_option maxHeartbeats 16000000 in
theorem gtouch_out_1 (Q : Nat → Int) (A B n d p q n' d' p' q' : Int) (H0 : ∀ w : World, Calls Try.prog 29 #[.agg #[.int .i64 A, .int .i64 B]] w fun x w' => x = .returned (.int .i64 0) ∧ Below w.heap.size w w') (H1 : ∀ w : World, Calls Try.prog 36 #[.agg #[.int .i64 n, .int .i64 d], .agg #[.int .i64 p, .int .i64 q]] w fun x w' => x = .returned (.bool false) ∧ Below w.heap.size w w') (HA : ∀ w : World, Calls Try.prog 37 #[] w fun x w' => x = .returned (.bool true) ∧ Below w.heap.size w w') (w : World) :
    Calls Try.prog 7 #[.agg #[.int .i64 A, .int .i64 B], .agg #[.int .i64 n, .int .i64 d], .agg #[.int .i64 p, .int .i64 q], .agg #[.int .i64 (n'), .int .i64 (d')], .agg #[.int .i64 (p'), .int .i64 (q')], .agg #[.int .i64 (Q 0), .int .i64 (Q 1), .int .i64 (Q 2), .int .i64 (Q 3), .int .i64 (Q 4), .int .i64 (Q 5)]] w fun x w' => x = .returned (.bool true) ∧ Below w.heap.size w w' := by
  have S0 := Lib.hid H0
  have S1 := Lib.hid H1
  have AL := Lib.hid HA
  clear HA H0 H1
  have dAl := dAl; have dSt := dSt
  go_enter Try.func7, Try.ntmps7
  go_upto_region 1 with fail
  refine opq (fun wx => Cs wx (w.heap.size) 2 (fg2 A B) ∧ Cs wx (w.heap.size + 1) 2 (fg2 n d) ∧ Cs wx (w.heap.size + 1 + 1) 2 (fg2 p q) ∧ Cs wx (w.heap.size + 1 + 1 + 1) 2 (fg2 n' d') ∧ Cs wx (w.heap.size + 1 + 1 + 1 + 1) 2 (fg2 p' q') ∧ Cs wx (w.heap.size + 1 + 1 + 1 + 1 + 1) 6 (Q) ∧ w.heap.size + 1 + 1 + 1 + 1 + 1 < wx.heap.size ∧ Below w.heap.size w wx) ?_ ?_
  · exact ⟨cs_alloc _ (cs_alloc _ (cs_alloc _ (cs_alloc _ (cs_alloc _ (cs_new (by simp) (arg2 A B)) (by simp <;> omega)) (by simp <;> omega)) (by simp <;> omega)) (by simp <;> omega)) (by simp <;> omega), cs_alloc _ (cs_alloc _ (cs_alloc _ (cs_alloc _ (cs_new (by simp) (arg2 n d)) (by simp <;> omega)) (by simp <;> omega)) (by simp <;> omega)) (by simp <;> omega), cs_alloc _ (cs_alloc _ (cs_alloc _ (cs_new (by simp) (arg2 p q)) (by simp <;> omega)) (by simp <;> omega)) (by simp <;> omega), cs_alloc _ (cs_alloc _ (cs_new (by simp) (arg2 n' d')) (by simp <;> omega)) (by simp <;> omega), cs_alloc _ (cs_new (by simp) (arg2 p' q')) (by simp <;> omega), cs_new (by simp) (arrV Q), by simp, by (repeat (first | with_reducible exact b0 _ | (with_reducible refine bext ?_ _ _) | (with_reducible refine below_drewN ?_ _) | (with_reducible refine Below.drew ?_) | (with_reducible refine bal ?_ _)))⟩
  rintro w0 ⟨cG, cS, cT, cU, cV, cQ, zs, HBa⟩
  have hG : ∀ o, o < 2 → w0.cell? ⟨w.heap.size, o, none⟩ = some (.int .i64 (fg2 A B o)) := cG
  have hS : ∀ o, o < 2 → w0.cell? ⟨w.heap.size + 1, o, none⟩ = some (.int .i64 (fg2 n d o)) := cS
  have hT : ∀ o, o < 2 → w0.cell? ⟨w.heap.size + 1 + 1, o, none⟩ = some (.int .i64 (fg2 p q o)) := cT
  have hU : ∀ o, o < 2 → w0.cell? ⟨w.heap.size + 1 + 1 + 1, o, none⟩ = some (.int .i64 (fg2 n' d' o)) := cU
  have hV : ∀ o, o < 2 → w0.cell? ⟨w.heap.size + 1 + 1 + 1 + 1, o, none⟩ = some (.int .i64 (fg2 p' q' o)) := cV
  have hQ : ∀ o, o < 6 → w0.cell? ⟨w.heap.size + 1 + 1 + 1 + 1 + 1, o, none⟩ = some (.int .i64 (Q o)) := cQ
  have i0 : fg2 A B 0 = A := rfl
  have i1 : fg2 A B 1 = B := rfl
  have i2 : fg2 n d 0 = n := rfl
  have i3 : fg2 n d 1 = d := rfl
  have i4 : fg2 p q 0 = p := rfl
  have i5 : fg2 p q 1 = q := rfl
  have i6 : fg2 n' d' 0 = n' := rfl
  have i7 : fg2 n' d' 1 = d' := rfl
  have i8 : fg2 p' q' 0 = p' := rfl
  have i9 : fg2 p' q' 1 = q' := rfl
  go_wp2_with fail
  with_reducible refine (S0.out _).mono ?_
  rintro e v0 ⟨rfl, hb⟩
  clear hG hS hT hU hV hQ
  replace cG := cs_below cG hb (by omega)
  replace cS := cs_below cS hb (by omega)
  replace cT := cs_below cT hb (by omega)
  replace cU := cs_below cU hb (by omega)
  replace cV := cs_below cV hb (by omega)
  replace cQ := cs_below cQ hb (by omega)
  replace HBa := HBa.trans (hb.mono (by omega))
  replace zs := Nat.lt_of_lt_of_le zs hb.size
  clear hb
  have hG : ∀ o, o < 2 → v0.cell? ⟨w.heap.size, o, none⟩ = some (.int .i64 (fg2 A B o)) := cG
  have hS : ∀ o, o < 2 → v0.cell? ⟨w.heap.size + 1, o, none⟩ = some (.int .i64 (fg2 n d o)) := cS
  have hT : ∀ o, o < 2 → v0.cell? ⟨w.heap.size + 1 + 1, o, none⟩ = some (.int .i64 (fg2 p q o)) := cT
  have hU : ∀ o, o < 2 → v0.cell? ⟨w.heap.size + 1 + 1 + 1, o, none⟩ = some (.int .i64 (fg2 n' d' o)) := cU
  have hV : ∀ o, o < 2 → v0.cell? ⟨w.heap.size + 1 + 1 + 1 + 1, o, none⟩ = some (.int .i64 (fg2 p' q' o)) := cV
  have hQ : ∀ o, o < 6 → v0.cell? ⟨w.heap.size + 1 + 1 + 1 + 1 + 1, o, none⟩ = some (.int .i64 (Q o)) := cQ
  go_wp2_with fail
  with_reducible refine (S1.out _).mono ?_
  rintro e v1 ⟨rfl, hb⟩
  clear hG hS hT hU hV hQ
  replace cG := cs_below cG hb (by omega)
  replace cS := cs_below cS hb (by omega)
  replace cT := cs_below cT hb (by omega)
  replace cU := cs_below cU hb (by omega)
  replace cV := cs_below cV hb (by omega)
  replace cQ := cs_below cQ hb (by omega)
  replace HBa := HBa.trans (hb.mono (by omega))
  replace zs := Nat.lt_of_lt_of_le zs hb.size
  clear hb
  have hG : ∀ o, o < 2 → v1.cell? ⟨w.heap.size, o, none⟩ = some (.int .i64 (fg2 A B o)) := cG
  have hS : ∀ o, o < 2 → v1.cell? ⟨w.heap.size + 1, o, none⟩ = some (.int .i64 (fg2 n d o)) := cS
  have hT : ∀ o, o < 2 → v1.cell? ⟨w.heap.size + 1 + 1, o, none⟩ = some (.int .i64 (fg2 p q o)) := cT
  have hU : ∀ o, o < 2 → v1.cell? ⟨w.heap.size + 1 + 1 + 1, o, none⟩ = some (.int .i64 (fg2 n' d' o)) := cU
  have hV : ∀ o, o < 2 → v1.cell? ⟨w.heap.size + 1 + 1 + 1 + 1, o, none⟩ = some (.int .i64 (fg2 p' q' o)) := cV
  have hQ : ∀ o, o < 6 → v1.cell? ⟨w.heap.size + 1 + 1 + 1 + 1 + 1, o, none⟩ = some (.int .i64 (Q o)) := cQ
  go_wp2_with fail
  with_reducible refine (AL.out _).mono ?_
  rintro e z1 ⟨rfl, hb⟩
  go_wp2_with fail
  go_ret
  exact ⟨rfl, HBa.trans (hb.mono (by omega))⟩
set_option maxRecDepth 100000 in
set_option maxHeartbeats 16000000 in
theorem gtouch_out_2 (Q : Nat → Int) (A B n d p q n' d' p' q' : Int) (H0 : ∀ w : World, Calls Try.prog 29 #[.agg #[.int .i64 A, .int .i64 B]] w fun x w' => x = .returned (.int .i64 0) ∧ Below w.heap.size w w') (H1 : ∀ w : World, Calls Try.prog 36 #[.agg #[.int .i64 n, .int .i64 d], .agg #[.int .i64 p, .int .i64 q]] w fun x w' => x = .returned (.bool true) ∧ Below w.heap.size w w') (H2 : ∀ w : World, Calls Try.prog 36 #[.agg #[.int .i64 (n'), .int .i64 (d')], .agg #[.int .i64 (p'), .int .i64 (q')]] w fun x w' => x = .returned (.bool false) ∧ Below w.heap.size w w') (HA : ∀ w : World, Calls Try.prog 37 #[] w fun x w' => x = .returned (.bool true) ∧ Below w.heap.size w w') (w : World) :
    Calls Try.prog 7 #[.agg #[.int .i64 A, .int .i64 B], .agg #[.int .i64 n, .int .i64 d], .agg #[.int .i64 p, .int .i64 q], .agg #[.int .i64 (n'), .int .i64 (d')], .agg #[.int .i64 (p'), .int .i64 (q')], .agg #[.int .i64 (Q 0), .int .i64 (Q 1), .int .i64 (Q 2), .int .i64 (Q 3), .int .i64 (Q 4), .int .i64 (Q 5)]] w fun x w' => x = .returned (.bool true) ∧ Below w.heap.size w w' := by
  have S0 := Lib.hid H0
  have S1 := Lib.hid H1
  have S2 := Lib.hid H2
  have AL := Lib.hid HA
  clear HA H0 H1 H2
  have dAl := dAl; have dSt := dSt
  go_enter Try.func7, Try.ntmps7
  go_upto_region 1 with fail
  refine opq (fun wx => Cs wx (w.heap.size) 2 (fg2 A B) ∧ Cs wx (w.heap.size + 1) 2 (fg2 n d) ∧ Cs wx (w.heap.size + 1 + 1) 2 (fg2 p q) ∧ Cs wx (w.heap.size + 1 + 1 + 1) 2 (fg2 n' d') ∧ Cs wx (w.heap.size + 1 + 1 + 1 + 1) 2 (fg2 p' q') ∧ Cs wx (w.heap.size + 1 + 1 + 1 + 1 + 1) 6 (Q) ∧ w.heap.size + 1 + 1 + 1 + 1 + 1 < wx.heap.size ∧ Below w.heap.size w wx) ?_ ?_
  · exact ⟨cs_alloc _ (cs_alloc _ (cs_alloc _ (cs_alloc _ (cs_alloc _ (cs_new (by simp) (arg2 A B)) (by simp <;> omega)) (by simp <;> omega)) (by simp <;> omega)) (by simp <;> omega)) (by simp <;> omega), cs_alloc _ (cs_alloc _ (cs_alloc _ (cs_alloc _ (cs_new (by simp) (arg2 n d)) (by simp <;> omega)) (by simp <;> omega)) (by simp <;> omega)) (by simp <;> omega), cs_alloc _ (cs_alloc _ (cs_alloc _ (cs_new (by simp) (arg2 p q)) (by simp <;> omega)) (by simp <;> omega)) (by simp <;> omega), cs_alloc _ (cs_alloc _ (cs_new (by simp) (arg2 n' d')) (by simp <;> omega)) (by simp <;> omega), cs_alloc _ (cs_new (by simp) (arg2 p' q')) (by simp <;> omega), cs_new (by simp) (arrV Q), by simp, by (repeat (first | with_reducible exact b0 _ | (with_reducible refine bext ?_ _ _) | (with_reducible refine below_drewN ?_ _) | (with_reducible refine Below.drew ?_) | (with_reducible refine bal ?_ _)))⟩
  rintro w0 ⟨cG, cS, cT, cU, cV, cQ, zs, HBa⟩
  have hG : ∀ o, o < 2 → w0.cell? ⟨w.heap.size, o, none⟩ = some (.int .i64 (fg2 A B o)) := cG
  have hS : ∀ o, o < 2 → w0.cell? ⟨w.heap.size + 1, o, none⟩ = some (.int .i64 (fg2 n d o)) := cS
  have hT : ∀ o, o < 2 → w0.cell? ⟨w.heap.size + 1 + 1, o, none⟩ = some (.int .i64 (fg2 p q o)) := cT
  have hU : ∀ o, o < 2 → w0.cell? ⟨w.heap.size + 1 + 1 + 1, o, none⟩ = some (.int .i64 (fg2 n' d' o)) := cU
  have hV : ∀ o, o < 2 → w0.cell? ⟨w.heap.size + 1 + 1 + 1 + 1, o, none⟩ = some (.int .i64 (fg2 p' q' o)) := cV
  have hQ : ∀ o, o < 6 → w0.cell? ⟨w.heap.size + 1 + 1 + 1 + 1 + 1, o, none⟩ = some (.int .i64 (Q o)) := cQ
  have i0 : fg2 A B 0 = A := rfl
  have i1 : fg2 A B 1 = B := rfl
  have i2 : fg2 n d 0 = n := rfl
  have i3 : fg2 n d 1 = d := rfl
  have i4 : fg2 p q 0 = p := rfl
  have i5 : fg2 p q 1 = q := rfl
  have i6 : fg2 n' d' 0 = n' := rfl
  have i7 : fg2 n' d' 1 = d' := rfl
  have i8 : fg2 p' q' 0 = p' := rfl
  have i9 : fg2 p' q' 1 = q' := rfl
  go_wp2_with fail
  with_reducible refine (S0.out _).mono ?_
  rintro e v0 ⟨rfl, hb⟩
  clear hG hS hT hU hV hQ
  replace cG := cs_below cG hb (by omega)
  replace cS := cs_below cS hb (by omega)
  replace cT := cs_below cT hb (by omega)
  replace cU := cs_below cU hb (by omega)
  replace cV := cs_below cV hb (by omega)
  replace cQ := cs_below cQ hb (by omega)
  replace HBa := HBa.trans (hb.mono (by omega))
  replace zs := Nat.lt_of_lt_of_le zs hb.size
  clear hb
  have hG : ∀ o, o < 2 → v0.cell? ⟨w.heap.size, o, none⟩ = some (.int .i64 (fg2 A B o)) := cG
  have hS : ∀ o, o < 2 → v0.cell? ⟨w.heap.size + 1, o, none⟩ = some (.int .i64 (fg2 n d o)) := cS
  have hT : ∀ o, o < 2 → v0.cell? ⟨w.heap.size + 1 + 1, o, none⟩ = some (.int .i64 (fg2 p q o)) := cT
  have hU : ∀ o, o < 2 → v0.cell? ⟨w.heap.size + 1 + 1 + 1, o, none⟩ = some (.int .i64 (fg2 n' d' o)) := cU
  have hV : ∀ o, o < 2 → v0.cell? ⟨w.heap.size + 1 + 1 + 1 + 1, o, none⟩ = some (.int .i64 (fg2 p' q' o)) := cV
  have hQ : ∀ o, o < 6 → v0.cell? ⟨w.heap.size + 1 + 1 + 1 + 1 + 1, o, none⟩ = some (.int .i64 (Q o)) := cQ
  go_wp2_with fail
  with_reducible refine (S1.out _).mono ?_
  rintro e v1 ⟨rfl, hb⟩
  clear hG hS hT hU hV hQ
  replace cG := cs_below cG hb (by omega)
  replace cS := cs_below cS hb (by omega)
  replace cT := cs_below cT hb (by omega)
  replace cU := cs_below cU hb (by omega)
  replace cV := cs_below cV hb (by omega)
  replace cQ := cs_below cQ hb (by omega)
  replace HBa := HBa.trans (hb.mono (by omega))
  replace zs := Nat.lt_of_lt_of_le zs hb.size
  clear hb
  have hG : ∀ o, o < 2 → v1.cell? ⟨w.heap.size, o, none⟩ = some (.int .i64 (fg2 A B o)) := cG
  have hS : ∀ o, o < 2 → v1.cell? ⟨w.heap.size + 1, o, none⟩ = some (.int .i64 (fg2 n d o)) := cS
  have hT : ∀ o, o < 2 → v1.cell? ⟨w.heap.size + 1 + 1, o, none⟩ = some (.int .i64 (fg2 p q o)) := cT
  have hU : ∀ o, o < 2 → v1.cell? ⟨w.heap.size + 1 + 1 + 1, o, none⟩ = some (.int .i64 (fg2 n' d' o)) := cU
  have hV : ∀ o, o < 2 → v1.cell? ⟨w.heap.size + 1 + 1 + 1 + 1, o, none⟩ = some (.int .i64 (fg2 p' q' o)) := cV
  have hQ : ∀ o, o < 6 → v1.cell? ⟨w.heap.size + 1 + 1 + 1 + 1 + 1, o, none⟩ = some (.int .i64 (Q o)) := cQ
  go_wp2_with fail
  with_reducible refine (S2.out _).mono ?_
  rintro e v2 ⟨rfl, hb⟩
  clear hG hS hT hU hV hQ
  replace cG := cs_below cG hb (by omega)
  replace cS := cs_below cS hb (by omega)
  replace cT := cs_below cT hb (by omega)
  replace cU := cs_below cU hb (by omega)
  replace cV := cs_below cV hb (by omega)
  replace cQ := cs_below cQ hb (by omega)
  replace HBa := HBa.trans (hb.mono (by omega))
  replace zs := Nat.lt_of_lt_of_le zs hb.size
  clear hb
  have hG : ∀ o, o < 2 → v2.cell? ⟨w.heap.size, o, none⟩ = some (.int .i64 (fg2 A B o)) := cG
  have hS : ∀ o, o < 2 → v2.cell? ⟨w.heap.size + 1, o, none⟩ = some (.int .i64 (fg2 n d o)) := cS
  have hT : ∀ o, o < 2 → v2.cell? ⟨w.heap.size + 1 + 1, o, none⟩ = some (.int .i64 (fg2 p q o)) := cT
  have hU : ∀ o, o < 2 → v2.cell? ⟨w.heap.size + 1 + 1 + 1, o, none⟩ = some (.int .i64 (fg2 n' d' o)) := cU
  have hV : ∀ o, o < 2 → v2.cell? ⟨w.heap.size + 1 + 1 + 1 + 1, o, none⟩ = some (.int .i64 (fg2 p' q' o)) := cV
  have hQ : ∀ o, o < 6 → v2.cell? ⟨w.heap.size + 1 + 1 + 1 + 1 + 1, o, none⟩ = some (.int .i64 (Q o)) := cQ
  go_wp2_with fail
  with_reducible refine (AL.out _).mono ?_
  rintro e z1 ⟨rfl, hb⟩
  go_wp2_with fail
  go_ret
  exact ⟨rfl, HBa.trans (hb.mono (by omega))⟩
set_option maxRecDepth 100000 in
set_option maxHeartbeats 16000000 in
theorem gtouch_walk (Q P X : Nat → Int) (A B n d p q n' d' p' q' m ei e1 e3 n1 n3 : Int) (hI : (ei = 0 ∧ (((∀ o, o < 6 → P o = X o) ∧ m = 0) ∨ (¬ (∀ o, o < 6 → P o = X o) ∧ m = -1))) ∨ ei = 16) (hN : e1 = 0 → e3 = 0 → n1 < 0 → n3 = -1)
    (HC : ∀ w : World, Calls Try.prog 29 #[.agg #[.int .i64 A, .int .i64 B]] w fun x w' => x = .returned (.int .i64 0) ∧ Below w.heap.size w w') (HP : ∀ w : World, Calls Try.prog 36 #[.agg #[.int .i64 n, .int .i64 d], .agg #[.int .i64 p, .int .i64 q]] w fun x w' => x = .returned (.bool true) ∧ Below w.heap.size w w') (HR : ∀ w : World, Calls Try.prog 36 #[.agg #[.int .i64 (n'), .int .i64 (d')], .agg #[.int .i64 (p'), .int .i64 (q')]] w fun x w' => x = .returned (.bool true) ∧ Below w.heap.size w w') (HA : ∀ w : World, Calls Try.prog 37 #[] w fun x w' => x = .returned (.bool true) ∧ Below w.heap.size w w')
    (H0 : ∀ w : World, Calls Try.prog 22 #[.agg #[.int .i64 A, .int .i64 B], .agg #[.int .i64 n, .int .i64 d], .agg #[.int .i64 p, .int .i64 q]] w fun x w' => x = .returned (.tuple #[.agg #[.int .i64 (P 0), .int .i64 (P 1), .int .i64 (P 2), .int .i64 (P 3), .int .i64 (P 4), .int .i64 (P 5)], .int .i64 0]) ∧ Below w.heap.size w w')
    (H1 : ∀ w : World, Calls Try.prog 22 #[.agg #[.int .i64 A, .int .i64 B], .agg #[.int .i64 (n'), .int .i64 (d')], .agg #[.int .i64 (p'), .int .i64 (q')]] w fun x w' => x = .returned (.tuple #[.agg #[.int .i64 (X 0), .int .i64 (X 1), .int .i64 (X 2), .int .i64 (X 3), .int .i64 (X 4), .int .i64 (X 5)], .int .i64 0]) ∧ Below w.heap.size w w')
    (H2 : ∀ w : World, Calls Try.prog 34 #[.agg #[.int .i64 A, .int .i64 B], .agg #[.int .i64 (P 0), .int .i64 (P 1), .int .i64 (P 2), .int .i64 (P 3), .int .i64 (P 4), .int .i64 (P 5)], .agg #[.int .i64 (P 0), .int .i64 (P 1), .int .i64 (P 2), .int .i64 (P 3), .int .i64 (P 4), .int .i64 (P 5)]] w fun x w' => x = .returned (.tuple #[.int .i64 0, .int .i64 0]) ∧ Below w.heap.size w w')
    (H3 : ∀ w : World, Calls Try.prog 34 #[.agg #[.int .i64 A, .int .i64 B], .agg #[.int .i64 (P 0), .int .i64 (P 1), .int .i64 (P 2), .int .i64 (P 3), .int .i64 (P 4), .int .i64 (P 5)], .agg #[.int .i64 (X 0), .int .i64 (X 1), .int .i64 (X 2), .int .i64 (X 3), .int .i64 (X 4), .int .i64 (X 5)]] w fun x w' => x = .returned (.tuple #[.int .i64 m, .int .i64 ei]) ∧ Below w.heap.size w w')
    (H4 : ∀ w : World, Calls Try.prog 26 #[.agg #[.int .i64 A, .int .i64 B], .agg #[.int .i64 (Q 0), .int .i64 (Q 1), .int .i64 (Q 2), .int .i64 (Q 3), .int .i64 (Q 4), .int .i64 (Q 5)]] w fun x w' => x = .returned (.tuple #[.int .i64 n1, .int .i64 e1]) ∧ Below w.heap.size w w')
    (H5 : ∀ w : World, Calls Try.prog 34 #[.agg #[.int .i64 A, .int .i64 B], .agg #[.int .i64 (P 0), .int .i64 (P 1), .int .i64 (P 2), .int .i64 (P 3), .int .i64 (P 4), .int .i64 (P 5)], .agg #[.int .i64 (Q 0), .int .i64 (Q 1), .int .i64 (Q 2), .int .i64 (Q 3), .int .i64 (Q 4), .int .i64 (Q 5)]] w fun x w' => x = .returned (.tuple #[.int .i64 n3, .int .i64 e3]) ∧ Below w.heap.size w w')
    (w : World) :
    Calls Try.prog 7 #[.agg #[.int .i64 A, .int .i64 B], .agg #[.int .i64 n, .int .i64 d], .agg #[.int .i64 p, .int .i64 q], .agg #[.int .i64 (n'), .int .i64 (d')], .agg #[.int .i64 (p'), .int .i64 (q')], .agg #[.int .i64 (Q 0), .int .i64 (Q 1), .int .i64 (Q 2), .int .i64 (Q 3), .int .i64 (Q 4), .int .i64 (Q 5)]] w fun x w' => x = .returned (.bool true) ∧ Below w.heap.size w w' := by
  have S0 := Lib.hid HC
  have S1 := Lib.hid HP
  have S2 := Lib.hid HR
  have AL := Lib.hid HA
  have HI := Lib.hid hI
  have HN := Lib.hid hN
  have K0 := Lib.hid H0
  have K1 := Lib.hid H1
  have K2 := Lib.hid H2
  have K3 := Lib.hid H3
  have K4 := Lib.hid H4
  have K5 := Lib.hid H5
  clear HC HP HR HA hI hN H0 H1 H2 H3 H4 H5
  have dAl := dAl; have dSt := dSt
  go_enter Try.func7, Try.ntmps7
  go_upto_region 1 with fail
  refine opq (fun wx => Cs wx (w.heap.size) 2 (fg2 A B) ∧ Cs wx (w.heap.size + 1) 2 (fg2 n d) ∧ Cs wx (w.heap.size + 1 + 1) 2 (fg2 p q) ∧ Cs wx (w.heap.size + 1 + 1 + 1) 2 (fg2 n' d') ∧ Cs wx (w.heap.size + 1 + 1 + 1 + 1) 2 (fg2 p' q') ∧ Cs wx (w.heap.size + 1 + 1 + 1 + 1 + 1) 6 (Q) ∧ w.heap.size + 1 + 1 + 1 + 1 + 1 < wx.heap.size ∧ Below w.heap.size w wx) ?_ ?_
  · exact ⟨cs_alloc _ (cs_alloc _ (cs_alloc _ (cs_alloc _ (cs_alloc _ (cs_new (by simp) (arg2 A B)) (by simp <;> omega)) (by simp <;> omega)) (by simp <;> omega)) (by simp <;> omega)) (by simp <;> omega), cs_alloc _ (cs_alloc _ (cs_alloc _ (cs_alloc _ (cs_new (by simp) (arg2 n d)) (by simp <;> omega)) (by simp <;> omega)) (by simp <;> omega)) (by simp <;> omega), cs_alloc _ (cs_alloc _ (cs_alloc _ (cs_new (by simp) (arg2 p q)) (by simp <;> omega)) (by simp <;> omega)) (by simp <;> omega), cs_alloc _ (cs_alloc _ (cs_new (by simp) (arg2 n' d')) (by simp <;> omega)) (by simp <;> omega), cs_alloc _ (cs_new (by simp) (arg2 p' q')) (by simp <;> omega), cs_new (by simp) (arrV Q), by simp, by (repeat (first | with_reducible exact b0 _ | (with_reducible refine bext ?_ _ _) | (with_reducible refine below_drewN ?_ _) | (with_reducible refine Below.drew ?_) | (with_reducible refine bal ?_ _)))⟩
  rintro w0 ⟨cG, cS, cT, cU, cV, cQ, zs, HBa⟩
  have hG : ∀ o, o < 2 → w0.cell? ⟨w.heap.size, o, none⟩ = some (.int .i64 (fg2 A B o)) := cG
  have hS : ∀ o, o < 2 → w0.cell? ⟨w.heap.size + 1, o, none⟩ = some (.int .i64 (fg2 n d o)) := cS
  have hT : ∀ o, o < 2 → w0.cell? ⟨w.heap.size + 1 + 1, o, none⟩ = some (.int .i64 (fg2 p q o)) := cT
  have hU : ∀ o, o < 2 → w0.cell? ⟨w.heap.size + 1 + 1 + 1, o, none⟩ = some (.int .i64 (fg2 n' d' o)) := cU
  have hV : ∀ o, o < 2 → w0.cell? ⟨w.heap.size + 1 + 1 + 1 + 1, o, none⟩ = some (.int .i64 (fg2 p' q' o)) := cV
  have hQ : ∀ o, o < 6 → w0.cell? ⟨w.heap.size + 1 + 1 + 1 + 1 + 1, o, none⟩ = some (.int .i64 (Q o)) := cQ
  have i0 : fg2 A B 0 = A := rfl
  have i1 : fg2 A B 1 = B := rfl
  have i2 : fg2 n d 0 = n := rfl
  have i3 : fg2 n d 1 = d := rfl
  have i4 : fg2 p q 0 = p := rfl
  have i5 : fg2 p q 1 = q := rfl
  have i6 : fg2 n' d' 0 = n' := rfl
  have i7 : fg2 n' d' 1 = d' := rfl
  have i8 : fg2 p' q' 0 = p' := rfl
  have i9 : fg2 p' q' 1 = q' := rfl
  go_wp2_with fail
  with_reducible refine (S0.out _).mono ?_
  rintro e v0 ⟨rfl, hb⟩
  clear hG hS hT hU hV hQ
  replace cG := cs_below cG hb (by omega)
  replace cS := cs_below cS hb (by omega)
  replace cT := cs_below cT hb (by omega)
  replace cU := cs_below cU hb (by omega)
  replace cV := cs_below cV hb (by omega)
  replace cQ := cs_below cQ hb (by omega)
  replace HBa := HBa.trans (hb.mono (by omega))
  replace zs := Nat.lt_of_lt_of_le zs hb.size
  clear hb
  have hG : ∀ o, o < 2 → v0.cell? ⟨w.heap.size, o, none⟩ = some (.int .i64 (fg2 A B o)) := cG
  have hS : ∀ o, o < 2 → v0.cell? ⟨w.heap.size + 1, o, none⟩ = some (.int .i64 (fg2 n d o)) := cS
  have hT : ∀ o, o < 2 → v0.cell? ⟨w.heap.size + 1 + 1, o, none⟩ = some (.int .i64 (fg2 p q o)) := cT
  have hU : ∀ o, o < 2 → v0.cell? ⟨w.heap.size + 1 + 1 + 1, o, none⟩ = some (.int .i64 (fg2 n' d' o)) := cU
  have hV : ∀ o, o < 2 → v0.cell? ⟨w.heap.size + 1 + 1 + 1 + 1, o, none⟩ = some (.int .i64 (fg2 p' q' o)) := cV
  have hQ : ∀ o, o < 6 → v0.cell? ⟨w.heap.size + 1 + 1 + 1 + 1 + 1, o, none⟩ = some (.int .i64 (Q o)) := cQ
  go_wp2_with fail
  with_reducible refine (S1.out _).mono ?_
  rintro e v1 ⟨rfl, hb⟩
  clear hG hS hT hU hV hQ
  replace cG := cs_below cG hb (by omega)
  replace cS := cs_below cS hb (by omega)
  replace cT := cs_below cT hb (by omega)
  replace cU := cs_below cU hb (by omega)
  replace cV := cs_below cV hb (by omega)
  replace cQ := cs_below cQ hb (by omega)
  replace HBa := HBa.trans (hb.mono (by omega))
  replace zs := Nat.lt_of_lt_of_le zs hb.size
  clear hb
  have hG : ∀ o, o < 2 → v1.cell? ⟨w.heap.size, o, none⟩ = some (.int .i64 (fg2 A B o)) := cG
  have hS : ∀ o, o < 2 → v1.cell? ⟨w.heap.size + 1, o, none⟩ = some (.int .i64 (fg2 n d o)) := cS
  have hT : ∀ o, o < 2 → v1.cell? ⟨w.heap.size + 1 + 1, o, none⟩ = some (.int .i64 (fg2 p q o)) := cT
  have hU : ∀ o, o < 2 → v1.cell? ⟨w.heap.size + 1 + 1 + 1, o, none⟩ = some (.int .i64 (fg2 n' d' o)) := cU
  have hV : ∀ o, o < 2 → v1.cell? ⟨w.heap.size + 1 + 1 + 1 + 1, o, none⟩ = some (.int .i64 (fg2 p' q' o)) := cV
  have hQ : ∀ o, o < 6 → v1.cell? ⟨w.heap.size + 1 + 1 + 1 + 1 + 1, o, none⟩ = some (.int .i64 (Q o)) := cQ
  go_wp2_with fail
  with_reducible refine (S2.out _).mono ?_
  rintro e v2 ⟨rfl, hb⟩
  clear hG hS hT hU hV hQ
  replace cG := cs_below cG hb (by omega)
  replace cS := cs_below cS hb (by omega)
  replace cT := cs_below cT hb (by omega)
  replace cU := cs_below cU hb (by omega)
  replace cV := cs_below cV hb (by omega)
  replace cQ := cs_below cQ hb (by omega)
  replace HBa := HBa.trans (hb.mono (by omega))
  replace zs := Nat.lt_of_lt_of_le zs hb.size
  clear hb
  have hG : ∀ o, o < 2 → v2.cell? ⟨w.heap.size, o, none⟩ = some (.int .i64 (fg2 A B o)) := cG
  have hS : ∀ o, o < 2 → v2.cell? ⟨w.heap.size + 1, o, none⟩ = some (.int .i64 (fg2 n d o)) := cS
  have hT : ∀ o, o < 2 → v2.cell? ⟨w.heap.size + 1 + 1, o, none⟩ = some (.int .i64 (fg2 p q o)) := cT
  have hU : ∀ o, o < 2 → v2.cell? ⟨w.heap.size + 1 + 1 + 1, o, none⟩ = some (.int .i64 (fg2 n' d' o)) := cU
  have hV : ∀ o, o < 2 → v2.cell? ⟨w.heap.size + 1 + 1 + 1 + 1, o, none⟩ = some (.int .i64 (fg2 p' q' o)) := cV
  have hQ : ∀ o, o < 6 → v2.cell? ⟨w.heap.size + 1 + 1 + 1 + 1 + 1, o, none⟩ = some (.int .i64 (Q o)) := cQ
  go_upto_region 3 with fail
  clear S0 S1 S2 hG hS hT hU hV hQ
  go_step
  have hV : ∀ o, o < 2 → v2.cell? ⟨w.heap.size, o, none⟩ = some (.int .i64 ((fg2 A B) o)) := cG
  have e0 : (fg2 A B) 0 = A := rfl
  have e1 : (fg2 A B) 1 = B := rfl
  refine wpList_plain rfl (fun K hK => ?_)
  go_big_op
  refine hK _ _ ?_
  clear hK K
  clear hV e0 e1
  have hV : ∀ o, o < 2 → v2.cell? ⟨w.heap.size + 1, o, none⟩ = some (.int .i64 ((fg2 n d) o)) := cS
  have e0 : (fg2 n d) 0 = n := rfl
  have e1 : (fg2 n d) 1 = d := rfl
  refine wpList_plain rfl (fun K hK => ?_)
  go_big_op
  refine hK _ _ ?_
  clear hK K
  clear hV e0 e1
  have hV : ∀ o, o < 2 → v2.cell? ⟨w.heap.size + 1 + 1, o, none⟩ = some (.int .i64 ((fg2 p q) o)) := cT
  have e0 : (fg2 p q) 0 = p := rfl
  have e1 : (fg2 p q) 1 = q := rfl
  refine wpList_plain rfl (fun K hK => ?_)
  go_big_op
  refine hK _ _ ?_
  clear hK K
  clear hV e0 e1
  have AC := K0.out
  refine wpList_plain rfl (fun K hK => ?_)
  go_big_op
  with_reducible refine (AC _).mono ?_
  rintro e v21 ⟨rfl, hb⟩
  simp only []
  refine hK _ _ ?_
  clear hK K
  replace cG := cs_below cG hb (by omega)
  replace cS := cs_below cS hb (by omega)
  replace cT := cs_below cT hb (by omega)
  replace cU := cs_below cU hb (by omega)
  replace cV := cs_below cV hb (by omega)
  replace cQ := cs_below cQ hb (by omega)
  replace HBa := HBa.trans (hb.mono (by first | omega | exact HBa.size))
  replace zs := Nat.lt_of_lt_of_le zs hb.size
  clear hb
  clear AC
  go_upto_region 4 with fail
  refine opq (fun wx => Cs wx (w.heap.size) 2 (fg2 A B) ∧ Cs wx (w.heap.size + 1) 2 (fg2 n d) ∧ Cs wx (w.heap.size + 1 + 1) 2 (fg2 p q) ∧ Cs wx (w.heap.size + 1 + 1 + 1) 2 (fg2 n' d') ∧ Cs wx (w.heap.size + 1 + 1 + 1 + 1) 2 (fg2 p' q') ∧ Cs wx (w.heap.size + 1 + 1 + 1 + 1 + 1) 6 Q ∧ Cs wx v21.heap.size 6 P ∧ v21.heap.size < wx.heap.size ∧ Below w.heap.size w wx) ?_ ?_
  · have zb := HBa.size
    exact ⟨by (repeat (first | with_reducible exact cG | with_reducible refine cs_drewN ?_ | with_reducible refine cs_drew ?_ | with_reducible refine cs_ext ?_ (by first | omega | (simp [ext_size, World.setCell] <;> omega)) _ _ | with_reducible refine cs_alloc _ ?_ (by first | omega | (simp [ext_size, World.setCell] <;> omega)) | with_reducible refine cs_up ?_ (by decide) | with_reducible refine cs_set _ ?_ (by first | omega | (simp <;> omega)))), by (repeat (first | with_reducible exact cS | with_reducible refine cs_drewN ?_ | with_reducible refine cs_drew ?_ | with_reducible refine cs_ext ?_ (by first | omega | (simp [ext_size, World.setCell] <;> omega)) _ _ | with_reducible refine cs_alloc _ ?_ (by first | omega | (simp [ext_size, World.setCell] <;> omega)) | with_reducible refine cs_up ?_ (by decide) | with_reducible refine cs_set _ ?_ (by first | omega | (simp <;> omega)))), by (repeat (first | with_reducible exact cT | with_reducible refine cs_drewN ?_ | with_reducible refine cs_drew ?_ | with_reducible refine cs_ext ?_ (by first | omega | (simp [ext_size, World.setCell] <;> omega)) _ _ | with_reducible refine cs_alloc _ ?_ (by first | omega | (simp [ext_size, World.setCell] <;> omega)) | with_reducible refine cs_up ?_ (by decide) | with_reducible refine cs_set _ ?_ (by first | omega | (simp <;> omega)))), by (repeat (first | with_reducible exact cU | with_reducible refine cs_drewN ?_ | with_reducible refine cs_drew ?_ | with_reducible refine cs_ext ?_ (by first | omega | (simp [ext_size, World.setCell] <;> omega)) _ _ | with_reducible refine cs_alloc _ ?_ (by first | omega | (simp [ext_size, World.setCell] <;> omega)) | with_reducible refine cs_up ?_ (by decide) | with_reducible refine cs_set _ ?_ (by first | omega | (simp <;> omega)))), by (repeat (first | with_reducible exact cV | with_reducible refine cs_drewN ?_ | with_reducible refine cs_drew ?_ | with_reducible refine cs_ext ?_ (by first | omega | (simp [ext_size, World.setCell] <;> omega)) _ _ | with_reducible refine cs_alloc _ ?_ (by first | omega | (simp [ext_size, World.setCell] <;> omega)) | with_reducible refine cs_up ?_ (by decide) | with_reducible refine cs_set _ ?_ (by first | omega | (simp <;> omega)))), by (repeat (first | with_reducible exact cQ | with_reducible refine cs_drewN ?_ | with_reducible refine cs_drew ?_ | with_reducible refine cs_ext ?_ (by first | omega | (simp [ext_size, World.setCell] <;> omega)) _ _ | with_reducible refine cs_alloc _ ?_ (by first | omega | (simp [ext_size, World.setCell] <;> omega)) | with_reducible refine cs_up ?_ (by decide) | with_reducible refine cs_set _ ?_ (by first | omega | (simp <;> omega)))), by (intro o ho; rcases (show o = 0 ∨ o = 1 ∨ o = 2 ∨ o = 3 ∨ o = 4 ∨ o = 5 by omega) with rfl | rfl | rfl | rfl | rfl | rfl <;> simp [fg2, fg6, go_sem]), by simp [World.setCell], by (repeat (first | with_reducible exact HBa | (with_reducible refine bextm ?_ (by first | omega | (simp [ext_size, World.setCell] <;> omega)) _ _) | (with_reducible refine below_drewN ?_ _) | (with_reducible refine Below.drew ?_) | (with_reducible refine Below.alloc ?_ (by first | omega | (simp [ext_size, World.setCell] <;> omega)) _) | (with_reducible refine Below.setCell ?_ (by first | omega | (simp [ext_size, World.setCell] <;> omega)) _)))⟩
  have y24 := zs
  clear cG cS cT cU cV cQ HBa zs
  generalize hq : v21.heap.size = q22 at *
  clear hq
  rintro u23 ⟨cG, cS, cT, cU, cV, cQ, cq22, zs, HBa⟩
  go_step
  have hV : ∀ o, o < 2 → u23.cell? ⟨w.heap.size, o, none⟩ = some (.int .i64 ((fg2 A B) o)) := cG
  have e0 : (fg2 A B) 0 = A := rfl
  have e1 : (fg2 A B) 1 = B := rfl
  refine wpList_plain rfl (fun K hK => ?_)
  go_big_op
  refine hK _ _ ?_
  clear hK K
  clear hV e0 e1
  have hV : ∀ o, o < 2 → u23.cell? ⟨w.heap.size + 1 + 1 + 1, o, none⟩ = some (.int .i64 ((fg2 n' d') o)) := cU
  have e0 : (fg2 n' d') 0 = n' := rfl
  have e1 : (fg2 n' d') 1 = d' := rfl
  refine wpList_plain rfl (fun K hK => ?_)
  go_big_op
  refine hK _ _ ?_
  clear hK K
  clear hV e0 e1
  have hV : ∀ o, o < 2 → u23.cell? ⟨w.heap.size + 1 + 1 + 1 + 1, o, none⟩ = some (.int .i64 ((fg2 p' q') o)) := cV
  have e0 : (fg2 p' q') 0 = p' := rfl
  have e1 : (fg2 p' q') 1 = q' := rfl
  refine wpList_plain rfl (fun K hK => ?_)
  go_big_op
  refine hK _ _ ?_
  clear hK K
  clear hV e0 e1
  have AC := K1.out
  refine wpList_plain rfl (fun K hK => ?_)
  go_big_op
  with_reducible refine (AC _).mono ?_
  rintro e v25 ⟨rfl, hb⟩
  simp only []
  refine hK _ _ ?_
  clear hK K
  replace cG := cs_below cG hb (by omega)
  replace cS := cs_below cS hb (by omega)
  replace cT := cs_below cT hb (by omega)
  replace cU := cs_below cU hb (by omega)
  replace cV := cs_below cV hb (by omega)
  replace cQ := cs_below cQ hb (by omega)
  replace cq22 := cs_below cq22 hb (by omega)
  replace HBa := HBa.trans (hb.mono (by first | omega | exact HBa.size))
  replace zs := Nat.lt_of_lt_of_le zs hb.size
  clear hb
  clear AC
  go_upto_region 5 with fail
  refine opq (fun wx => Cs wx (w.heap.size) 2 (fg2 A B) ∧ Cs wx (w.heap.size + 1) 2 (fg2 n d) ∧ Cs wx (w.heap.size + 1 + 1) 2 (fg2 p q) ∧ Cs wx (w.heap.size + 1 + 1 + 1) 2 (fg2 n' d') ∧ Cs wx (w.heap.size + 1 + 1 + 1 + 1) 2 (fg2 p' q') ∧ Cs wx (w.heap.size + 1 + 1 + 1 + 1 + 1) 6 Q ∧ Cs wx (q22) 6 P ∧ Cs wx v25.heap.size 6 X ∧ v25.heap.size < wx.heap.size ∧ Below w.heap.size w wx) ?_ ?_
  · have zb := HBa.size
    exact ⟨by (repeat (first | with_reducible exact cG | with_reducible refine cs_drewN ?_ | with_reducible refine cs_drew ?_ | with_reducible refine cs_ext ?_ (by first | omega | (simp [ext_size, World.setCell] <;> omega)) _ _ | with_reducible refine cs_alloc _ ?_ (by first | omega | (simp [ext_size, World.setCell] <;> omega)) | with_reducible refine cs_up ?_ (by decide) | with_reducible refine cs_set _ ?_ (by first | omega | (simp <;> omega)))), by (repeat (first | with_reducible exact cS | with_reducible refine cs_drewN ?_ | with_reducible refine cs_drew ?_ | with_reducible refine cs_ext ?_ (by first | omega | (simp [ext_size, World.setCell] <;> omega)) _ _ | with_reducible refine cs_alloc _ ?_ (by first | omega | (simp [ext_size, World.setCell] <;> omega)) | with_reducible refine cs_up ?_ (by decide) | with_reducible refine cs_set _ ?_ (by first | omega | (simp <;> omega)))), by (repeat (first | with_reducible exact cT | with_reducible refine cs_drewN ?_ | with_reducible refine cs_drew ?_ | with_reducible refine cs_ext ?_ (by first | omega | (simp [ext_size, World.setCell] <;> omega)) _ _ | with_reducible refine cs_alloc _ ?_ (by first | omega | (simp [ext_size, World.setCell] <;> omega)) | with_reducible refine cs_up ?_ (by decide) | with_reducible refine cs_set _ ?_ (by first | omega | (simp <;> omega)))), by (repeat (first | with_reducible exact cU | with_reducible refine cs_drewN ?_ | with_reducible refine cs_drew ?_ | with_reducible refine cs_ext ?_ (by first | omega | (simp [ext_size, World.setCell] <;> omega)) _ _ | with_reducible refine cs_alloc _ ?_ (by first | omega | (simp [ext_size, World.setCell] <;> omega)) | with_reducible refine cs_up ?_ (by decide) | with_reducible refine cs_set _ ?_ (by first | omega | (simp <;> omega)))), by (repeat (first | with_reducible exact cV | with_reducible refine cs_drewN ?_ | with_reducible refine cs_drew ?_ | with_reducible refine cs_ext ?_ (by first | omega | (simp [ext_size, World.setCell] <;> omega)) _ _ | with_reducible refine cs_alloc _ ?_ (by first | omega | (simp [ext_size, World.setCell] <;> omega)) | with_reducible refine cs_up ?_ (by decide) | with_reducible refine cs_set _ ?_ (by first | omega | (simp <;> omega)))), by (repeat (first | with_reducible exact cQ | with_reducible refine cs_drewN ?_ | with_reducible refine cs_drew ?_ | with_reducible refine cs_ext ?_ (by first | omega | (simp [ext_size, World.setCell] <;> omega)) _ _ | with_reducible refine cs_alloc _ ?_ (by first | omega | (simp [ext_size, World.setCell] <;> omega)) | with_reducible refine cs_up ?_ (by decide) | with_reducible refine cs_set _ ?_ (by first | omega | (simp <;> omega)))), by (repeat (first | with_reducible exact cq22 | with_reducible refine cs_drewN ?_ | with_reducible refine cs_drew ?_ | with_reducible refine cs_ext ?_ (by first | omega | (simp [ext_size, World.setCell] <;> omega)) _ _ | with_reducible refine cs_alloc _ ?_ (by first | omega | (simp [ext_size, World.setCell] <;> omega)) | with_reducible refine cs_up ?_ (by decide) | with_reducible refine cs_set _ ?_ (by first | omega | (simp <;> omega)))), by (intro o ho; rcases (show o = 0 ∨ o = 1 ∨ o = 2 ∨ o = 3 ∨ o = 4 ∨ o = 5 by omega) with rfl | rfl | rfl | rfl | rfl | rfl <;> simp [fg2, fg6, go_sem]), by simp [World.setCell], by (repeat (first | with_reducible exact HBa | (with_reducible refine bextm ?_ (by first | omega | (simp [ext_size, World.setCell] <;> omega)) _ _) | (with_reducible refine below_drewN ?_ _) | (with_reducible refine Below.drew ?_) | (with_reducible refine Below.alloc ?_ (by first | omega | (simp [ext_size, World.setCell] <;> omega)) _) | (with_reducible refine Below.setCell ?_ (by first | omega | (simp [ext_size, World.setCell] <;> omega)) _)))⟩
  have y28 := zs
  clear cG cS cT cU cV cQ cq22 HBa zs
  generalize hq : v25.heap.size = q26 at *
  clear hq
  rintro u27 ⟨cG, cS, cT, cU, cV, cQ, cq22, cq26, zs, HBa⟩
  go_step
  have hV : ∀ o, o < 2 → u27.cell? ⟨w.heap.size, o, none⟩ = some (.int .i64 ((fg2 A B) o)) := cG
  have e0 : (fg2 A B) 0 = A := rfl
  have e1 : (fg2 A B) 1 = B := rfl
  refine wpList_plain rfl (fun K hK => ?_)
  go_big_op
  refine hK _ _ ?_
  clear hK K
  clear hV e0 e1
  have hV : ∀ o, o < 6 → u27.cell? ⟨q22, o, none⟩ = some (.int .i64 (P o)) := cq22
  refine wpList_plain rfl (fun K hK => ?_)
  go_big_op
  refine hK _ _ ?_
  clear hK K
  clear hV
  have hV : ∀ o, o < 6 → u27.cell? ⟨q22, o, none⟩ = some (.int .i64 (P o)) := cq22
  refine wpList_plain rfl (fun K hK => ?_)
  go_big_op
  refine hK _ _ ?_
  clear hK K
  clear hV
  have AC := K2.out
  refine wpList_plain rfl (fun K hK => ?_)
  go_big_op
  with_reducible refine (AC _).mono ?_
  rintro e v29 ⟨rfl, hb⟩
  simp only []
  refine hK _ _ ?_
  clear hK K
  replace cG := cs_below cG hb (by omega)
  replace cS := cs_below cS hb (by omega)
  replace cT := cs_below cT hb (by omega)
  replace cU := cs_below cU hb (by omega)
  replace cV := cs_below cV hb (by omega)
  replace cQ := cs_below cQ hb (by omega)
  replace cq22 := cs_below cq22 hb (by omega)
  replace cq26 := cs_below cq26 hb (by omega)
  replace HBa := HBa.trans (hb.mono (by first | omega | exact HBa.size))
  replace zs := Nat.lt_of_lt_of_le zs hb.size
  clear hb
  clear AC
  go_upto_region 6 with fail
  go_step
  have hV : ∀ o, o < 2 → v29.cell? ⟨w.heap.size, o, none⟩ = some (.int .i64 ((fg2 A B) o)) := cG
  have e0 : (fg2 A B) 0 = A := rfl
  have e1 : (fg2 A B) 1 = B := rfl
  refine wpList_plain rfl (fun K hK => ?_)
  go_big_op
  refine hK _ _ ?_
  clear hK K
  clear hV e0 e1
  have hV : ∀ o, o < 6 → v29.cell? ⟨q22, o, none⟩ = some (.int .i64 (P o)) := cq22
  refine wpList_plain rfl (fun K hK => ?_)
  go_big_op
  refine hK _ _ ?_
  clear hK K
  clear hV
  have hV : ∀ o, o < 6 → v29.cell? ⟨q26, o, none⟩ = some (.int .i64 (X o)) := cq26
  refine wpList_plain rfl (fun K hK => ?_)
  go_big_op
  refine hK _ _ ?_
  clear hK K
  clear hV
  have AC := K3.out
  refine wpList_plain rfl (fun K hK => ?_)
  go_big_op
  with_reducible refine (AC _).mono ?_
  rintro e v30 ⟨rfl, hb⟩
  simp only []
  refine hK _ _ ?_
  clear hK K
  replace cG := cs_below cG hb (by omega)
  replace cS := cs_below cS hb (by omega)
  replace cT := cs_below cT hb (by omega)
  replace cU := cs_below cU hb (by omega)
  replace cV := cs_below cV hb (by omega)
  replace cQ := cs_below cQ hb (by omega)
  replace cq22 := cs_below cq22 hb (by omega)
  replace cq26 := cs_below cq26 hb (by omega)
  replace HBa := HBa.trans (hb.mono (by first | omega | exact HBa.size))
  replace zs := Nat.lt_of_lt_of_le zs hb.size
  clear hb
  clear AC
  go_upto_region 7 with fail
  go_cut [110] (fun s110 wx => s110 = .bool false ∧ Below v30.heap.size v30 wx)
  case first =>
    have hP : ∀ o, o < 6 → v30.cell? ⟨q22, o, none⟩ = some (.int .i64 (P o)) := cq22
    have hX : ∀ o, o < 6 → v30.cell? ⟨q26, o, none⟩ = some (.int .i64 (X o)) := cq26
    rcases HI.out with ⟨rfl, hm⟩ | rfl
    · rcases hm with ⟨hEq, rfl⟩ | ⟨hNe, rfl⟩
      · have u0 := hEq 0 (by omega)
        have u1 := hEq 1 (by omega)
        have u2 := hEq 2 (by omega)
        have u3 := hEq 3 (by omega)
        have u4 := hEq 4 (by omega)
        have u5 := hEq 5 (by omega)
        clear hEq
        go_wp2_with fail
        go_meet
        exact ⟨rfl, Below.refl _ _⟩
      · by_cases u0 : P 0 = X 0
        · by_cases u1 : P 1 = X 1
          · by_cases u2 : P 2 = X 2
            · by_cases u3 : P 3 = X 3
              · by_cases u4 : P 4 = X 4
                · by_cases u5 : P 5 = X 5
                  · exact absurd (fun o ho => by rcases (show o = 0 ∨ o = 1 ∨ o = 2 ∨ o = 3 ∨ o = 4 ∨ o = 5 by omega) with rfl | rfl | rfl | rfl | rfl | rfl <;> assumption) hNe
                  · have g5 : (P 5 == X 5) = false := by simpa using u5
                    clear hNe u5
                    go_wp2_with fail
                    go_meet
                    exact ⟨rfl, Below.refl _ _⟩
                · have g4 : (P 4 == X 4) = false := by simpa using u4
                  clear hNe u4
                  go_wp2_with fail
                  go_meet
                  exact ⟨rfl, Below.refl _ _⟩
              · have g3 : (P 3 == X 3) = false := by simpa using u3
                clear hNe u3
                go_wp2_with fail
                go_meet
                exact ⟨rfl, Below.refl _ _⟩
            · have g2 : (P 2 == X 2) = false := by simpa using u2
              clear hNe u2
              go_wp2_with fail
              go_meet
              exact ⟨rfl, Below.refl _ _⟩
          · have g1 : (P 1 == X 1) = false := by simpa using u1
            clear hNe u1
            go_wp2_with fail
            go_meet
            exact ⟨rfl, Below.refl _ _⟩
        · have g0 : (P 0 == X 0) = false := by simpa using u0
          clear hNe u0
          go_wp2_with fail
          go_meet
          exact ⟨rfl, Below.refl _ _⟩
    · go_wp2_with fail
      go_meet
      exact ⟨rfl, Below.refl _ _⟩
  case rest =>
  obtain ⟨rfl, hb⟩ := hcut
  replace cG := cs_below cG hb (by omega)
  replace cS := cs_below cS hb (by omega)
  replace cT := cs_below cT hb (by omega)
  replace cU := cs_below cU hb (by omega)
  replace cV := cs_below cV hb (by omega)
  replace cQ := cs_below cQ hb (by omega)
  replace cq22 := cs_below cq22 hb (by omega)
  replace cq26 := cs_below cq26 hb (by omega)
  replace HBa := HBa.trans (hb.mono (by first | omega | exact HBa.size))
  replace zs := Nat.lt_of_lt_of_le zs hb.size
  clear hb
  clear HI
  go_upto_region 9 with fail
  go_step
  have hV : ∀ o, o < 2 → wc.cell? ⟨w.heap.size, o, none⟩ = some (.int .i64 ((fg2 A B) o)) := cG
  have e0 : (fg2 A B) 0 = A := rfl
  have e1 : (fg2 A B) 1 = B := rfl
  refine wpList_plain rfl (fun K hK => ?_)
  go_big_op
  refine hK _ _ ?_
  clear hK K
  clear hV e0 e1
  have hV : ∀ o, o < 6 → wc.cell? ⟨w.heap.size + 1 + 1 + 1 + 1 + 1, o, none⟩ = some (.int .i64 (Q o)) := cQ
  refine wpList_plain rfl (fun K hK => ?_)
  go_big_op
  refine hK _ _ ?_
  clear hK K
  clear hV
  have AC := K4.out
  refine wpList_plain rfl (fun K hK => ?_)
  go_big_op
  with_reducible refine (AC _).mono ?_
  rintro e v31 ⟨rfl, hb⟩
  simp only []
  refine hK _ _ ?_
  clear hK K
  replace cG := cs_below cG hb (by omega)
  replace cS := cs_below cS hb (by omega)
  replace cT := cs_below cT hb (by omega)
  replace cU := cs_below cU hb (by omega)
  replace cV := cs_below cV hb (by omega)
  replace cQ := cs_below cQ hb (by omega)
  replace cq22 := cs_below cq22 hb (by omega)
  replace cq26 := cs_below cq26 hb (by omega)
  replace HBa := HBa.trans (hb.mono (by first | omega | exact HBa.size))
  replace zs := Nat.lt_of_lt_of_le zs hb.size
  clear hb
  clear AC
  go_upto_region 10 with fail
  go_step
  have hV : ∀ o, o < 2 → v31.cell? ⟨w.heap.size, o, none⟩ = some (.int .i64 ((fg2 A B) o)) := cG
  have e0 : (fg2 A B) 0 = A := rfl
  have e1 : (fg2 A B) 1 = B := rfl
  refine wpList_plain rfl (fun K hK => ?_)
  go_big_op
  refine hK _ _ ?_
  clear hK K
  clear hV e0 e1
  have hV : ∀ o, o < 6 → v31.cell? ⟨q22, o, none⟩ = some (.int .i64 (P o)) := cq22
  refine wpList_plain rfl (fun K hK => ?_)
  go_big_op
  refine hK _ _ ?_
  clear hK K
  clear hV
  have hV : ∀ o, o < 6 → v31.cell? ⟨w.heap.size + 1 + 1 + 1 + 1 + 1, o, none⟩ = some (.int .i64 (Q o)) := cQ
  refine wpList_plain rfl (fun K hK => ?_)
  go_big_op
  refine hK _ _ ?_
  clear hK K
  clear hV
  have AC := K5.out
  refine wpList_plain rfl (fun K hK => ?_)
  go_big_op
  with_reducible refine (AC _).mono ?_
  rintro e v32 ⟨rfl, hb⟩
  simp only []
  refine hK _ _ ?_
  clear hK K
  replace cG := cs_below cG hb (by omega)
  replace cS := cs_below cS hb (by omega)
  replace cT := cs_below cT hb (by omega)
  replace cU := cs_below cU hb (by omega)
  replace cV := cs_below cV hb (by omega)
  replace cQ := cs_below cQ hb (by omega)
  replace cq22 := cs_below cq22 hb (by omega)
  replace cq26 := cs_below cq26 hb (by omega)
  replace HBa := HBa.trans (hb.mono (by first | omega | exact HBa.size))
  replace zs := Nat.lt_of_lt_of_le zs hb.size
  clear hb
  clear AC
  go_upto_region 11 with fail
  go_cut [137] (fun s137 wx => s137 = .bool false ∧ Below v32.heap.size v32 wx)
  case first =>
    by_cases k1 : e1 = 0
    · subst k1
      by_cases k3 : e3 = 0
      · subst k3
        by_cases kn : n1 < 0
        · have hn := HN.out rfl rfl kn
          subst hn
          have fn : (n1 < 0) = True := eq_true kn
          clear HN
          go_wp2_with fail
          go_meet
          exact ⟨rfl, Below.refl _ _⟩
        · have fn : (n1 < 0) = False := eq_false kn
          clear HN
          go_wp2_with fail
          go_meet
          exact ⟨rfl, Below.refl _ _⟩
      · have g3 : (e3 == 0) = false := by simpa using k3
        clear HN
        go_wp2_with fail
        go_meet
        exact ⟨rfl, Below.refl _ _⟩
    · have g1 : (e1 == 0) = false := by simpa using k1
      clear HN
      go_wp2_with fail
      go_meet
      exact ⟨rfl, Below.refl _ _⟩
  case rest =>
  obtain ⟨rfl, hb⟩ := hcut
  replace cG := cs_below cG hb (by omega)
  replace cS := cs_below cS hb (by omega)
  replace cT := cs_below cT hb (by omega)
  replace cU := cs_below cU hb (by omega)
  replace cV := cs_below cV hb (by omega)
  replace cQ := cs_below cQ hb (by omega)
  replace cq22 := cs_below cq22 hb (by omega)
  replace cq26 := cs_below cq26 hb (by omega)
  replace HBa := HBa.trans (hb.mono (by first | omega | exact HBa.size))
  replace zs := Nat.lt_of_lt_of_le zs hb.size
  clear hb
  clear HN
  go_wp2_with fail
  with_reducible refine (AL.out _).mono ?_
  rintro e z1 ⟨rfl, hb⟩
  go_wp2_with fail
  go_ret
  exact ⟨rfl, HBa.trans (hb.mono (by omega))⟩
end Go.Proofs.Ytdolfdmgdknboaa
namespace Go.Proofs.Ytdolfdmgdknboaa
open Go.RowKit
set_option linter.unusedVariables false
set_option linter.unusedSimpArgs false

theorem sd_place {A B : Int} {P : Nat → Int} (e1 : inE A B P = 0) (e2 : inN A B P = 0) (Q : Nat → Int) : sdE A B P Q = dtW (nrm A B P) Q ∧ sdN A B P Q = if dtW (nrm A B P) Q = 0 then cmW (nrm A B P) Q else 0 := by
  have m : mlE A B P = 0 := by rw [mlE, if_pos e1, if_pos e2]
  exact ⟨by rw [sdE, if_pos m], by rw [sdN, if_pos m]⟩
theorem scl_inj {A B : Int} {P X : Nat → Int} (hG : gOk A B) (oP : okW P) (oX : okW X) (h0 : scl A B P 0 = scl A B X 0) (h1 : scl A B P 1 = scl A B X 1) (h2 : scl A B P 2 = scl A B X 2) : ∀ o, o < 6 → P o = X o := by
  obtain ⟨g1, g2, g3, g4⟩ := gOk_in hG
  have iA := q_1c (a := A) (by omega)
  have iB := q_1c (a := B) (by omega)
  change qv 1 A * vv P 0 = qv 1 A * vv X 0 at h0
  change qv 1 A * vv P 1 = qv 1 A * vv X 1 at h1
  change qv 1 B * vv P 2 = qv 1 B * vv X 2 at h2
  exact vec_ext oP oX (by grind) (by grind) (by grind)
set_option maxHeartbeats 1600000 in
theorem touch_all (Q : Nat → Int) (A B n d p q n' d' p' q' : Int) (cQ : okCW Q) (hs : okC n d) (ht : okC p q) (hs' : okC n' d') (ht' : okC p' q') (w : World) :
    Calls Try.prog 7 #[.agg #[.int .i64 A, .int .i64 B], .agg #[.int .i64 n, .int .i64 d], .agg #[.int .i64 p, .int .i64 q], .agg #[.int .i64 (n'), .int .i64 (d')], .agg #[.int .i64 (p'), .int .i64 (q')], .agg #[.int .i64 (Q 0), .int .i64 (Q 1), .int .i64 (Q 2), .int .i64 (Q 3), .int .i64 (Q 4), .int .i64 (Q 5)]] w fun x w' => x = .returned (.bool true) ∧ Below w.heap.size w w' := by
  have AL := fun w => galive w
  have CH := fun w => ref_GCheck A B w
  by_cases hG : gOk A B
  · rw [if_pos hG] at CH
    have PL := fun w => g_refPlaced n d p q hs ht w
    by_cases hp : pOk n d ∧ pOk p q ∧ -d ≤ n ∧ n ≤ d
    · rw [decide_eq_true hp] at PL
      obtain ⟨o1, o2, b1, b2⟩ := hp
      have PR := fun w => g_refPlaced n' d' p' q' hs' ht' w
      by_cases hp' : pOk n' d' ∧ pOk p' q' ∧ -d' ≤ n' ∧ n' ≤ d'
      · rw [decide_eq_true hp'] at PR
        obtain ⟨o1', o2', b1', b2'⟩ := hp'
        obtain ⟨g1, g2, g3, g4⟩ := gOk_in hG
        obtain ⟨oP, p1, p2, p3, p4, p5⟩ := place hG o1 b1 b2 o2
        obtain ⟨oX, x1, x2, x3, x4, x5⟩ := place hG o1' b1' b2' o2'
        have AT := fun w => g_At hG o1 b1 b2 o2 w
        rw [(at_val hG o1 b1 b2 o2).1] at AT
        have AX := fun w => g_At hG o1' b1' b2' o2' w
        rw [(at_val hG o1' b1' b2' o2').1] at AX
        generalize atR A B n d p q = P at *
        generalize atR A B n' d' p' q' = X at *
        have SP := fun w => g_SideA hG oP oP w
        have cP := (cm_sign p4 (side_val hG oP p3 p4)).1 p5
        rw [(sd_place p1 p2 P).1, (sd_place p1 p2 P).2, if_pos p4, p4, cP] at SP
        have SX := fun w => g_SideA hG oP oX w
        have oN : okW (nrm A B P) := (dtW_ok p4).1
        have hI : (sdE A B P X = 0 ∧ (((∀ o, o < 6 → P o = X o) ∧ sdN A B P X = 0) ∨ (¬ (∀ o, o < 6 → P o = X o) ∧ sdN A B P X = -1))) ∨ sdE A B P X = 16 := by
          obtain ⟨s1, s2⟩ := sd_place p1 p2 X
          rcases dtW_01 oN oX with z | z
          · refine Or.inl ⟨s1.trans z, ?_⟩
            rw [s2, if_pos z]
            obtain ⟨k1, k2, k3⟩ := cm_sign z (side_val hG oP p3 z)
            by_cases h : ∀ o, o < 6 → P o = X o
            · refine Or.inl ⟨h, ?_⟩
              rw [← cP]
              exact (dt_eq (fun _ _ => rfl) (fun o ho => (h o ho).symm)).2
            · refine Or.inr ⟨h, k2 ?_⟩
              have l := u_le p5 x5
              apply Classical.byContradiction
              intro c
              obtain ⟨q0, q1, q2⟩ := u_eq p5 x5 (by grind)
              exact h (scl_inj hG oP oX q0 q1 q2)
          · exact Or.inr (s1.trans z)
        by_cases oQ : okW Q
        · refine gtouch_walk Q P X A B n d p q n' d' p' q' (sdN A B P X) (sdE A B P X) (inE A B Q) (sdE A B P Q) (inN A B Q) (sdN A B P Q) hI ?_ CH PL PR AL AT AX SP SX (fun w => g_InsideA hG oQ w) (fun w => g_SideA hG oP oQ w) w
          intro e1 e3 neg
          obtain ⟨s1, s2⟩ := sd_place p1 p2 Q
          have z := s1.symm.trans e3
          rw [s2, if_pos z]
          obtain ⟨z1, z2, z3⟩ := in_zero e1
          rw [z3] at neg
          obtain ⟨_, r0, r1, r2⟩ := dg_val (a := A) (b := B) (by omega) (by omega) (by omega) (by omega) oQ z1
          have l := (cm_sign z2 rfl).2.2 neg
          unfold rel at l
          rw [r0, r1, r2] at l
          exact (cm_sign z (side_val hG oP p3 z)).2.1 (u_lt p5 l)
        · exact gtouch_walk Q P X A B n d p q n' d' p' q' (sdN A B P X) (sdE A B P X) 8 8 0 0 hI (fun e => absurd e (by omega)) CH PL PR AL AT AX SP SX (fun w => g_Inside_bad hG cQ oQ w) (fun w => g_Side_bad hG oP cQ oQ w) w
      · rw [decide_eq_false hp'] at PR
        exact gtouch_out_2 Q A B n d p q n' d' p' q' CH PL PR AL w
    · rw [decide_eq_false hp] at PL
      exact gtouch_out_1 Q A B n d p q n' d' p' q' CH PL AL w
  · rw [if_neg hG] at CH
    exact gtouch_out_0 Q A B n d p q n' d' p' q' CH AL w
end Go.Proofs.Ytdolfdmgdknboaa
