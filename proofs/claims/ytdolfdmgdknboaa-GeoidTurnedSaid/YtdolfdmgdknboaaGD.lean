/-
  Package geoid: the ways with an error of compare, Inside, On, mustLie and Side.  GeoidTurned, walked: its calls by contracts.  GeoidTurned, for all globes, parameters and points.  GeoidTurned: all of it together.
-/
import Derived.Lib.Hide
import Derived.Test.YtdolfdmgdknboaaGA
import Derived.Test.YtdolfdmgdknboaaMA
import Derived.Test.YtdolfdmgdknboaaGca
import Derived.Deep.DeepCutAuto
import Derived.Test.YtdolfdmgdknboaaGE
import Derived.Test.YtdolfdmgdknboaaGpl
import Derived.Test.YtdolfdmgdknboaaVa
namespace Go.Proofs.Ytdolfdmgdknboaa
open Go.RowKit
set_option linter.unusedVariables false
set_option linter.unusedSimpArgs false

set_option maxRecDepth 100000 in
set_option maxHeartbeats 3200000 in
theorem geo_compare_e (P Q : Nat → Int) (N D e : Int) (he : (e == 0) = false) (DT : ∀ w : World, Calls Try.prog 41 #[.agg #[.int .i64 (P 0), .int .i64 (P 1), .int .i64 (P 2), .int .i64 (P 3), .int .i64 (P 4), .int .i64 (P 5)], .agg #[.int .i64 (Q 0), .int .i64 (Q 1), .int .i64 (Q 2), .int .i64 (Q 3), .int .i64 (Q 4), .int .i64 (Q 5)]] w fun x w' => x = .returned (.tuple #[.agg #[.int .i64 N, .int .i64 D], .int .i64 e]) ∧ Below w.heap.size w w') (w : World) :
    Calls Try.prog 73 #[.agg #[.int .i64 (P 0), .int .i64 (P 1), .int .i64 (P 2), .int .i64 (P 3), .int .i64 (P 4), .int .i64 (P 5)], .agg #[.int .i64 (Q 0), .int .i64 (Q 1), .int .i64 (Q 2), .int .i64 (Q 3), .int .i64 (Q 4), .int .i64 (Q 5)]] w fun x w' => x = .returned (.tuple #[.int .i64 0, .int .i64 e]) ∧ Below w.heap.size w w' := by
  have dAl := dAl; have dSt := dSt
  go_enter Try.func73, Try.ntmps73
  go_upto_region 1 with fail
  refine opq (fun wx => Cs wx (w.heap.size) 6 P ∧ Cs wx (w.heap.size + 1) 6 Q ∧ w.heap.size + 1 < wx.heap.size ∧ Below w.heap.size w wx) ?_ ?_
  · exact ⟨cs_alloc _ (cs_new (by simp) (arrV P)) (by simp <;> omega), cs_new (by simp) (arrV Q), by simp, by (repeat (first | with_reducible exact b0 _ | (with_reducible refine bext ?_ _ _) | (with_reducible refine below_drewN ?_ _) | (with_reducible refine Below.drew ?_) | (with_reducible refine bal ?_ _)))⟩
  rintro w0 ⟨c0, c1, zs, HBa⟩
  have hc0 : ∀ o, o < 6 → w0.cell? ⟨w.heap.size, o, none⟩ = some (.int .i64 (P o)) := c0
  have hc1 : ∀ o, o < 6 → w0.cell? ⟨w.heap.size + 1, o, none⟩ = some (.int .i64 (Q o)) := c1
  go_wp2_with fail
  with_reducible refine (DT _).mono ?_
  rintro e v1 ⟨rfl, hb⟩
  clear hc0 hc1
  replace c0 := cs_below c0 hb (by omega)
  replace c1 := cs_below c1 hb (by omega)
  replace HBa := HBa.trans (hb.mono (by first | omega | exact HBa.size))
  replace zs := Nat.lt_of_lt_of_le zs hb.size
  clear hb
  clear c0
  clear c1
  go_wp2
  refine bodyPost_ret (by simp [results, Try.results73, go_sem, ext_cell, World.cell?_alloc_past, ltk2, ltk3, ltk4, ltk5, ltk6, ltk7, ltk8, ltk9, *]; try rfl) rfl ?_
  exact ⟨rfl, by (repeat (first | with_reducible exact HBa | (with_reducible refine bextm ?_ (by first | omega | (simp [ext_size, World.setCell] <;> omega)) _ _) | (with_reducible refine below_drewN ?_ _) | (with_reducible refine Below.drew ?_) | (with_reducible refine Below.alloc ?_ (by first | omega | (simp [ext_size, World.setCell] <;> omega)) _) | (with_reducible refine Below.setCell ?_ (by first | omega | (simp [ext_size, World.setCell] <;> omega)) _)))⟩
set_option maxRecDepth 100000 in
set_option maxHeartbeats 3200000 in
theorem geo_Inside_e (P R : Nat → Int) (A B e : Int) (he : (e == 0) = false) (CK : ∀ (W : World) (gg : Nat), gg < W.heap.size → (∀ o, o < 6 → W.cell? ⟨gg, o, none⟩ = some (.int .i64 (P o))) → Calls Try.prog 71 #[.agg #[.int .i64 A, .int .i64 B], .slice (some ⟨gg, 0, none⟩) 1 1] W fun x w' => x = .returned (.int .i64 0) ∧ Below W.heap.size W w') (RL : ∀ w : World, Calls Try.prog 72 #[.agg #[.int .i64 A, .int .i64 B], .agg #[.int .i64 (P 0), .int .i64 (P 1), .int .i64 (P 2), .int .i64 (P 3), .int .i64 (P 4), .int .i64 (P 5)]] w fun x w' => x = .returned (.tuple #[.agg #[.int .i64 (R 0), .int .i64 (R 1), .int .i64 (R 2), .int .i64 (R 3), .int .i64 (R 4), .int .i64 (R 5)], .int .i64 e]) ∧ Below w.heap.size w w') (w : World) :
    Calls Try.prog 26 #[.agg #[.int .i64 A, .int .i64 B], .agg #[.int .i64 (P 0), .int .i64 (P 1), .int .i64 (P 2), .int .i64 (P 3), .int .i64 (P 4), .int .i64 (P 5)]] w fun x w' => x = .returned (.tuple #[.int .i64 0, .int .i64 e]) ∧ Below w.heap.size w w' := by
  have dAl := dAl; have dSt := dSt
  go_enter Try.func26, Try.ntmps26
  go_upto_region 1 with fail
  refine opq (fun wx => Cs wx (w.heap.size) 2 (fg2 A B) ∧ Cs wx (w.heap.size + 1) 6 P ∧ w.heap.size + 1 < wx.heap.size ∧ Below w.heap.size w wx) ?_ ?_
  · exact ⟨cs_alloc _ (cs_new (by simp) (arg2 A B)) (by simp <;> omega), cs_new (by simp) (arrV P), by simp, by (repeat (first | with_reducible exact b0 _ | (with_reducible refine bext ?_ _ _) | (with_reducible refine below_drewN ?_ _) | (with_reducible refine Below.drew ?_) | (with_reducible refine bal ?_ _)))⟩
  rintro w0 ⟨c0, c1, zs, HBa⟩
  have i0 : fg2 A B 0 = A := rfl
  have i1 : fg2 A B 1 = B := rfl
  have hc0 : ∀ o, o < 2 → w0.cell? ⟨w.heap.size, o, none⟩ = some (.int .i64 ((fg2 A B) o)) := c0
  have hc1 : ∀ o, o < 6 → w0.cell? ⟨w.heap.size + 1, o, none⟩ = some (.int .i64 (P o)) := c1
  go_wp2_with fail
  with_reducible refine (CK _ _ ?_ ?_).mono ?_
  · simp
  · exact cs_new (by simp) (arrV P)
  rintro e v1 ⟨rfl, hb⟩
  replace hb := bt (bal (b0 _) _) hb
  clear hc0 hc1
  replace c0 := cs_below c0 hb (by omega)
  replace c1 := cs_below c1 hb (by omega)
  replace HBa := HBa.trans (hb.mono (by first | omega | exact HBa.size))
  replace zs := Nat.lt_of_lt_of_le zs hb.size
  clear hb
  have hc0 : ∀ o, o < 2 → v1.cell? ⟨w.heap.size, o, none⟩ = some (.int .i64 ((fg2 A B) o)) := c0
  have hc1 : ∀ o, o < 6 → v1.cell? ⟨w.heap.size + 1, o, none⟩ = some (.int .i64 (P o)) := c1
  go_wp2_with fail
  with_reducible refine (RL _).mono ?_
  rintro e v2 ⟨rfl, hb⟩
  clear hc0 hc1
  replace c0 := cs_below c0 hb (by omega)
  replace c1 := cs_below c1 hb (by omega)
  replace HBa := HBa.trans (hb.mono (by first | omega | exact HBa.size))
  replace zs := Nat.lt_of_lt_of_le zs hb.size
  clear hb
  clear c0
  clear c1
  go_wp2
  refine bodyPost_ret (by simp [results, Try.results26, go_sem, ext_cell, World.cell?_alloc_past, ltk2, ltk3, ltk4, ltk5, ltk6, ltk7, ltk8, ltk9, *]; try rfl) rfl ?_
  exact ⟨rfl, by (repeat (first | with_reducible exact HBa | (with_reducible refine bextm ?_ (by first | omega | (simp [ext_size, World.setCell] <;> omega)) _ _) | (with_reducible refine below_drewN ?_ _) | (with_reducible refine Below.drew ?_) | (with_reducible refine Below.alloc ?_ (by first | omega | (simp [ext_size, World.setCell] <;> omega)) _) | (with_reducible refine Below.setCell ?_ (by first | omega | (simp [ext_size, World.setCell] <;> omega)) _)))⟩
set_option maxRecDepth 100000 in
set_option maxHeartbeats 3200000 in
theorem geo_Inside2 (P R : Nat → Int) (A B sg e : Int) (CK : ∀ (W : World) (gg : Nat), gg < W.heap.size → (∀ o, o < 6 → W.cell? ⟨gg, o, none⟩ = some (.int .i64 (P o))) → Calls Try.prog 71 #[.agg #[.int .i64 A, .int .i64 B], .slice (some ⟨gg, 0, none⟩) 1 1] W fun x w' => x = .returned (.int .i64 0) ∧ Below W.heap.size W w') (RL : ∀ w : World, Calls Try.prog 72 #[.agg #[.int .i64 A, .int .i64 B], .agg #[.int .i64 (P 0), .int .i64 (P 1), .int .i64 (P 2), .int .i64 (P 3), .int .i64 (P 4), .int .i64 (P 5)]] w fun x w' => x = .returned (.tuple #[.agg #[.int .i64 (R 0), .int .i64 (R 1), .int .i64 (R 2), .int .i64 (R 3), .int .i64 (R 4), .int .i64 (R 5)], .int .i64 0]) ∧ Below w.heap.size w w') (CM : ∀ w : World, Calls Try.prog 73 #[.agg #[.int .i64 (R 0), .int .i64 (R 1), .int .i64 (R 2), .int .i64 (R 3), .int .i64 (R 4), .int .i64 (R 5)], .agg #[.int .i64 (R 0), .int .i64 (R 1), .int .i64 (R 2), .int .i64 (R 3), .int .i64 (R 4), .int .i64 (R 5)]] w fun x w' => x = .returned (.tuple #[.int .i64 sg, .int .i64 e]) ∧ Below w.heap.size w w') (w : World) :
    Calls Try.prog 26 #[.agg #[.int .i64 A, .int .i64 B], .agg #[.int .i64 (P 0), .int .i64 (P 1), .int .i64 (P 2), .int .i64 (P 3), .int .i64 (P 4), .int .i64 (P 5)]] w fun x w' => x = .returned (.tuple #[.int .i64 sg, .int .i64 e]) ∧ Below w.heap.size w w' := by
  have dAl := dAl; have dSt := dSt
  go_enter Try.func26, Try.ntmps26
  go_upto_region 1 with fail
  refine opq (fun wx => Cs wx (w.heap.size) 2 (fg2 A B) ∧ Cs wx (w.heap.size + 1) 6 P ∧ w.heap.size + 1 < wx.heap.size ∧ Below w.heap.size w wx) ?_ ?_
  · exact ⟨cs_alloc _ (cs_new (by simp) (arg2 A B)) (by simp <;> omega), cs_new (by simp) (arrV P), by simp, by (repeat (first | with_reducible exact b0 _ | (with_reducible refine bext ?_ _ _) | (with_reducible refine below_drewN ?_ _) | (with_reducible refine Below.drew ?_) | (with_reducible refine bal ?_ _)))⟩
  rintro w0 ⟨c0, c1, zs, HBa⟩
  have i0 : fg2 A B 0 = A := rfl
  have i1 : fg2 A B 1 = B := rfl
  have hc0 : ∀ o, o < 2 → w0.cell? ⟨w.heap.size, o, none⟩ = some (.int .i64 ((fg2 A B) o)) := c0
  have hc1 : ∀ o, o < 6 → w0.cell? ⟨w.heap.size + 1, o, none⟩ = some (.int .i64 (P o)) := c1
  go_wp2_with fail
  with_reducible refine (CK _ _ ?_ ?_).mono ?_
  · simp
  · exact cs_new (by simp) (arrV P)
  rintro e v1 ⟨rfl, hb⟩
  replace hb := bt (bal (b0 _) _) hb
  clear hc0 hc1
  replace c0 := cs_below c0 hb (by omega)
  replace c1 := cs_below c1 hb (by omega)
  replace HBa := HBa.trans (hb.mono (by first | omega | exact HBa.size))
  replace zs := Nat.lt_of_lt_of_le zs hb.size
  clear hb
  have hc0 : ∀ o, o < 2 → v1.cell? ⟨w.heap.size, o, none⟩ = some (.int .i64 ((fg2 A B) o)) := c0
  have hc1 : ∀ o, o < 6 → v1.cell? ⟨w.heap.size + 1, o, none⟩ = some (.int .i64 (P o)) := c1
  go_wp2_with fail
  with_reducible refine (RL _).mono ?_
  rintro e v2 ⟨rfl, hb⟩
  clear hc0 hc1
  replace c0 := cs_below c0 hb (by omega)
  replace c1 := cs_below c1 hb (by omega)
  replace HBa := HBa.trans (hb.mono (by first | omega | exact HBa.size))
  replace zs := Nat.lt_of_lt_of_le zs hb.size
  clear hb
  have hc0 : ∀ o, o < 2 → v2.cell? ⟨w.heap.size, o, none⟩ = some (.int .i64 ((fg2 A B) o)) := c0
  have hc1 : ∀ o, o < 6 → v2.cell? ⟨w.heap.size + 1, o, none⟩ = some (.int .i64 (P o)) := c1
  go_upto_region 7 with fail
  clear hc0 hc1
  have zb := HBa.size
  refine opq (fun wx => Cs wx (w.heap.size) 2 (fg2 A B) ∧ Cs wx (w.heap.size + 1) 6 P ∧ Cs wx (v2.heap.size) 6 R ∧ v2.heap.size < wx.heap.size ∧ Below w.heap.size w wx) ?_ ?_
  · exact ⟨by (repeat (first | with_reducible exact c0 | with_reducible refine cs_drewN ?_ | with_reducible refine cs_drew ?_ | with_reducible refine cs_ext ?_ (by first | omega | (simp [ext_size, World.setCell] <;> omega)) _ _ | with_reducible refine cs_alloc _ ?_ (by first | omega | (simp [ext_size, World.setCell] <;> omega)) | with_reducible refine cs_up ?_ (by decide) | with_reducible refine cs_set _ ?_ (by first | omega | (simp <;> omega)))), by (repeat (first | with_reducible exact c1 | with_reducible refine cs_drewN ?_ | with_reducible refine cs_drew ?_ | with_reducible refine cs_ext ?_ (by first | omega | (simp [ext_size, World.setCell] <;> omega)) _ _ | with_reducible refine cs_alloc _ ?_ (by first | omega | (simp [ext_size, World.setCell] <;> omega)) | with_reducible refine cs_up ?_ (by decide) | with_reducible refine cs_set _ ?_ (by first | omega | (simp <;> omega)))), by (intro o ho; rcases (show o = 0 ∨ o = 1 ∨ o = 2 ∨ o = 3 ∨ o = 4 ∨ o = 5 by omega) with rfl | rfl | rfl | rfl | rfl | rfl <;> (simp (maxDischargeDepth := 8) [fg2, fg6, go_sem, World.cell?_alloc_past, ltk2, ltk3, ltk4, ltk5])), by (simp [World.setCell] <;> omega), by (repeat (first | with_reducible exact HBa | (with_reducible refine bextm ?_ (by first | omega | (simp [ext_size, World.setCell] <;> omega)) _ _) | (with_reducible refine below_drewN ?_ _) | (with_reducible refine Below.drew ?_) | (with_reducible refine Below.alloc ?_ (by first | omega | (simp [ext_size, World.setCell] <;> omega)) _) | (with_reducible refine Below.setCell ?_ (by first | omega | (simp [ext_size, World.setCell] <;> omega)) _)))⟩
  have yy3 := zs
  clear c0 c1 HBa zb zs
  generalize hq : v2.heap.size = q2 at *
  clear hq
  rintro uu3 ⟨c0, c1, d0, zn, HBa⟩
  have zs := zn
  clear zn
  have hc0 : ∀ o, o < 2 → uu3.cell? ⟨w.heap.size, o, none⟩ = some (.int .i64 ((fg2 A B) o)) := c0
  have hc1 : ∀ o, o < 6 → uu3.cell? ⟨w.heap.size + 1, o, none⟩ = some (.int .i64 (P o)) := c1
  have hd0 : ∀ o, o < 6 → uu3.cell? ⟨q2, o, none⟩ = some (.int .i64 (R o)) := d0
  go_wp2_with fail
  with_reducible refine (CM _).mono ?_
  rintro e v4 ⟨rfl, hb⟩
  clear hc0 hc1 hd0
  replace c0 := cs_below c0 hb (by omega)
  replace c1 := cs_below c1 hb (by omega)
  replace d0 := cs_below d0 hb (by omega)
  replace HBa := HBa.trans (hb.mono (by first | omega | exact HBa.size))
  replace zs := Nat.lt_of_lt_of_le zs hb.size
  clear hb
  go_wp2
  refine bodyPost_ret (by simp [results, Try.results26, go_sem, ext_cell, World.cell?_alloc_past, ltk2, ltk3, ltk4, ltk5, ltk6, ltk7, ltk8, ltk9, *]; try rfl) rfl ?_
  exact ⟨rfl, HBa⟩
set_option maxRecDepth 100000 in
set_option maxHeartbeats 3200000 in
theorem geo_On_e (P : Nat → Int) (A B sg e : Int) (he : (e == 0) = false) (IN : ∀ w : World, Calls Try.prog 26 #[.agg #[.int .i64 A, .int .i64 B], .agg #[.int .i64 (P 0), .int .i64 (P 1), .int .i64 (P 2), .int .i64 (P 3), .int .i64 (P 4), .int .i64 (P 5)]] w fun x w' => x = .returned (.tuple #[.int .i64 sg, .int .i64 e]) ∧ Below w.heap.size w w') (w : World) :
    Calls Try.prog 24 #[.agg #[.int .i64 A, .int .i64 B], .agg #[.int .i64 (P 0), .int .i64 (P 1), .int .i64 (P 2), .int .i64 (P 3), .int .i64 (P 4), .int .i64 (P 5)]] w fun x w' => x = .returned (.tuple #[.bool false, .int .i64 e]) ∧ Below w.heap.size w w' := by
  have dAl := dAl; have dSt := dSt
  go_enter Try.func24, Try.ntmps24
  go_upto_region 1 with fail
  refine opq (fun wx => Cs wx (w.heap.size) 2 (fg2 A B) ∧ Cs wx (w.heap.size + 1) 6 P ∧ w.heap.size + 1 < wx.heap.size ∧ Below w.heap.size w wx) ?_ ?_
  · exact ⟨cs_alloc _ (cs_new (by simp) (arg2 A B)) (by simp <;> omega), cs_new (by simp) (arrV P), by simp, by (repeat (first | with_reducible exact b0 _ | (with_reducible refine bext ?_ _ _) | (with_reducible refine below_drewN ?_ _) | (with_reducible refine Below.drew ?_) | (with_reducible refine bal ?_ _)))⟩
  rintro w0 ⟨c0, c1, zs, HBa⟩
  have i0 : fg2 A B 0 = A := rfl
  have i1 : fg2 A B 1 = B := rfl
  have hc0 : ∀ o, o < 2 → w0.cell? ⟨w.heap.size, o, none⟩ = some (.int .i64 ((fg2 A B) o)) := c0
  have hc1 : ∀ o, o < 6 → w0.cell? ⟨w.heap.size + 1, o, none⟩ = some (.int .i64 (P o)) := c1
  go_wp2_with fail
  with_reducible refine (IN _).mono ?_
  rintro e v1 ⟨rfl, hb⟩
  clear hc0 hc1
  replace c0 := cs_below c0 hb (by omega)
  replace c1 := cs_below c1 hb (by omega)
  replace HBa := HBa.trans (hb.mono (by first | omega | exact HBa.size))
  replace zs := Nat.lt_of_lt_of_le zs hb.size
  clear hb
  go_wp2
  refine bodyPost_ret (by simp [results, Try.results24, go_sem, ext_cell, World.cell?_alloc_past, ltk2, ltk3, ltk4, ltk5, ltk6, ltk7, ltk8, ltk9, *]; try rfl) rfl ?_
  exact ⟨rfl, HBa⟩
set_option maxRecDepth 100000 in
set_option maxHeartbeats 3200000 in
theorem geo_mustLie_no (P : Nat → Int) (A B : Int) (ON : ∀ w : World, Calls Try.prog 24 #[.agg #[.int .i64 A, .int .i64 B], .agg #[.int .i64 (P 0), .int .i64 (P 1), .int .i64 (P 2), .int .i64 (P 3), .int .i64 (P 4), .int .i64 (P 5)]] w fun x w' => x = .returned (.tuple #[.bool false, .int .i64 0]) ∧ Below w.heap.size w w') (w : World) :
    Calls Try.prog 77 #[.agg #[.int .i64 A, .int .i64 B], .agg #[.int .i64 (P 0), .int .i64 (P 1), .int .i64 (P 2), .int .i64 (P 3), .int .i64 (P 4), .int .i64 (P 5)]] w fun x w' => x = .returned (.int .i64 6) ∧ Below w.heap.size w w' := by
  have dAl := dAl; have dSt := dSt
  go_enter Try.func77, Try.ntmps77
  go_upto_region 1 with fail
  refine opq (fun wx => Cs wx (w.heap.size) 2 (fg2 A B) ∧ Cs wx (w.heap.size + 1) 6 P ∧ w.heap.size + 1 < wx.heap.size ∧ Below w.heap.size w wx) ?_ ?_
  · exact ⟨cs_alloc _ (cs_new (by simp) (arg2 A B)) (by simp <;> omega), cs_new (by simp) (arrV P), by simp, by (repeat (first | with_reducible exact b0 _ | (with_reducible refine bext ?_ _ _) | (with_reducible refine below_drewN ?_ _) | (with_reducible refine Below.drew ?_) | (with_reducible refine bal ?_ _)))⟩
  rintro w0 ⟨c0, c1, zs, HBa⟩
  have i0 : fg2 A B 0 = A := rfl
  have i1 : fg2 A B 1 = B := rfl
  have hc0 : ∀ o, o < 2 → w0.cell? ⟨w.heap.size, o, none⟩ = some (.int .i64 ((fg2 A B) o)) := c0
  have hc1 : ∀ o, o < 6 → w0.cell? ⟨w.heap.size + 1, o, none⟩ = some (.int .i64 (P o)) := c1
  go_wp2_with fail
  with_reducible refine (ON _).mono ?_
  rintro e v1 ⟨rfl, hb⟩
  clear hc0 hc1
  replace c0 := cs_below c0 hb (by omega)
  replace c1 := cs_below c1 hb (by omega)
  replace HBa := HBa.trans (hb.mono (by first | omega | exact HBa.size))
  replace zs := Nat.lt_of_lt_of_le zs hb.size
  clear hb
  go_wp2
  go_ret
  exact ⟨rfl, HBa⟩
set_option maxRecDepth 100000 in
set_option maxHeartbeats 3200000 in
theorem geo_mustLie_e (P : Nat → Int) (A B : Int) (b : Bool) (e : Int) (he : (e == 0) = false) (ON : ∀ w : World, Calls Try.prog 24 #[.agg #[.int .i64 A, .int .i64 B], .agg #[.int .i64 (P 0), .int .i64 (P 1), .int .i64 (P 2), .int .i64 (P 3), .int .i64 (P 4), .int .i64 (P 5)]] w fun x w' => x = .returned (.tuple #[.bool b, .int .i64 e]) ∧ Below w.heap.size w w') (w : World) :
    Calls Try.prog 77 #[.agg #[.int .i64 A, .int .i64 B], .agg #[.int .i64 (P 0), .int .i64 (P 1), .int .i64 (P 2), .int .i64 (P 3), .int .i64 (P 4), .int .i64 (P 5)]] w fun x w' => x = .returned (.int .i64 e) ∧ Below w.heap.size w w' := by
  have dAl := dAl; have dSt := dSt
  go_enter Try.func77, Try.ntmps77
  go_upto_region 1 with fail
  refine opq (fun wx => Cs wx (w.heap.size) 2 (fg2 A B) ∧ Cs wx (w.heap.size + 1) 6 P ∧ w.heap.size + 1 < wx.heap.size ∧ Below w.heap.size w wx) ?_ ?_
  · exact ⟨cs_alloc _ (cs_new (by simp) (arg2 A B)) (by simp <;> omega), cs_new (by simp) (arrV P), by simp, by (repeat (first | with_reducible exact b0 _ | (with_reducible refine bext ?_ _ _) | (with_reducible refine below_drewN ?_ _) | (with_reducible refine Below.drew ?_) | (with_reducible refine bal ?_ _)))⟩
  rintro w0 ⟨c0, c1, zs, HBa⟩
  have i0 : fg2 A B 0 = A := rfl
  have i1 : fg2 A B 1 = B := rfl
  have hc0 : ∀ o, o < 2 → w0.cell? ⟨w.heap.size, o, none⟩ = some (.int .i64 ((fg2 A B) o)) := c0
  have hc1 : ∀ o, o < 6 → w0.cell? ⟨w.heap.size + 1, o, none⟩ = some (.int .i64 (P o)) := c1
  go_wp2_with fail
  with_reducible refine (ON _).mono ?_
  rintro e v1 ⟨rfl, hb⟩
  clear hc0 hc1
  replace c0 := cs_below c0 hb (by omega)
  replace c1 := cs_below c1 hb (by omega)
  replace HBa := HBa.trans (hb.mono (by first | omega | exact HBa.size))
  replace zs := Nat.lt_of_lt_of_le zs hb.size
  clear hb
  go_wp2
  go_ret
  exact ⟨rfl, HBa⟩
set_option maxRecDepth 100000 in
set_option maxHeartbeats 3200000 in
theorem geo_Side_e (P Q : Nat → Int) (A B e : Int) (he : (e == 0) = false) (CK : ∀ (W : World) (gg : Nat), gg < W.heap.size → (∀ o, o < 12 → W.cell? ⟨gg, o, none⟩ = some (.int .i64 (pq P Q o))) → Calls Try.prog 71 #[.agg #[.int .i64 A, .int .i64 B], .slice (some ⟨gg, 0, none⟩) 2 2] W fun x w' => x = .returned (.int .i64 0) ∧ Below W.heap.size W w') (ML : ∀ w : World, Calls Try.prog 77 #[.agg #[.int .i64 A, .int .i64 B], .agg #[.int .i64 (P 0), .int .i64 (P 1), .int .i64 (P 2), .int .i64 (P 3), .int .i64 (P 4), .int .i64 (P 5)]] w fun x w' => x = .returned (.int .i64 e) ∧ Below w.heap.size w w') (w : World) :
    Calls Try.prog 34 #[.agg #[.int .i64 A, .int .i64 B], .agg #[.int .i64 (P 0), .int .i64 (P 1), .int .i64 (P 2), .int .i64 (P 3), .int .i64 (P 4), .int .i64 (P 5)], .agg #[.int .i64 (Q 0), .int .i64 (Q 1), .int .i64 (Q 2), .int .i64 (Q 3), .int .i64 (Q 4), .int .i64 (Q 5)]] w fun x w' => x = .returned (.tuple #[.int .i64 0, .int .i64 e]) ∧ Below w.heap.size w w' := by
  have dAl := dAl; have dSt := dSt
  go_enter Try.func34, Try.ntmps34
  go_upto_region 1 with fail
  refine opq (fun wx => Cs wx (w.heap.size) 2 (fg2 A B) ∧ Cs wx (w.heap.size + 1) 6 P ∧ Cs wx (w.heap.size + 1 + 1) 6 Q ∧ w.heap.size + 1 + 1 < wx.heap.size ∧ Below w.heap.size w wx) ?_ ?_
  · exact ⟨cs_alloc _ (cs_alloc _ (cs_new (by simp) (arg2 A B)) (by simp <;> omega)) (by simp <;> omega), cs_alloc _ (cs_new (by simp) (arrV P)) (by simp <;> omega), cs_new (by simp) (arrV Q), by simp, by (repeat (first | with_reducible exact b0 _ | (with_reducible refine bext ?_ _ _) | (with_reducible refine below_drewN ?_ _) | (with_reducible refine Below.drew ?_) | (with_reducible refine bal ?_ _)))⟩
  rintro w0 ⟨c0, c1, c2, zs, HBa⟩
  have i0 : fg2 A B 0 = A := rfl
  have i1 : fg2 A B 1 = B := rfl
  have hc0 : ∀ o, o < 2 → w0.cell? ⟨w.heap.size, o, none⟩ = some (.int .i64 ((fg2 A B) o)) := c0
  have hc1 : ∀ o, o < 6 → w0.cell? ⟨w.heap.size + 1, o, none⟩ = some (.int .i64 (P o)) := c1
  have hc2 : ∀ o, o < 6 → w0.cell? ⟨w.heap.size + 1 + 1, o, none⟩ = some (.int .i64 (Q o)) := c2
  go_wp2_with fail
  with_reducible refine (CK _ _ ?_ ?_).mono ?_
  · simp
  · exact cs_new (by simp) (arrPQ P Q)
  rintro e v1 ⟨rfl, hb⟩
  replace hb := bt (bal (b0 _) _) hb
  clear hc0 hc1 hc2
  replace c0 := cs_below c0 hb (by omega)
  replace c1 := cs_below c1 hb (by omega)
  replace c2 := cs_below c2 hb (by omega)
  replace HBa := HBa.trans (hb.mono (by first | omega | exact HBa.size))
  replace zs := Nat.lt_of_lt_of_le zs hb.size
  clear hb
  have hc0 : ∀ o, o < 2 → v1.cell? ⟨w.heap.size, o, none⟩ = some (.int .i64 ((fg2 A B) o)) := c0
  have hc1 : ∀ o, o < 6 → v1.cell? ⟨w.heap.size + 1, o, none⟩ = some (.int .i64 (P o)) := c1
  have hc2 : ∀ o, o < 6 → v1.cell? ⟨w.heap.size + 1 + 1, o, none⟩ = some (.int .i64 (Q o)) := c2
  go_wp2_with fail
  with_reducible refine (ML _).mono ?_
  rintro e v2 ⟨rfl, hb⟩
  clear hc0 hc1 hc2
  replace c0 := cs_below c0 hb (by omega)
  replace c1 := cs_below c1 hb (by omega)
  replace c2 := cs_below c2 hb (by omega)
  replace HBa := HBa.trans (hb.mono (by first | omega | exact HBa.size))
  replace zs := Nat.lt_of_lt_of_le zs hb.size
  clear hb
  go_wp2
  refine bodyPost_ret (by simp [results, Try.results34, go_sem, ext_cell, World.cell?_alloc_past, ltk2, ltk3, ltk4, ltk5, ltk6, ltk7, ltk8, ltk9, *]; try rfl) rfl ?_
  exact ⟨rfl, HBa⟩
set_option maxRecDepth 100000 in
set_option maxHeartbeats 3200000 in
theorem geo_Side2 (P Q R : Nat → Int) (A B e2 sg e : Int) (CK : ∀ (W : World) (gg : Nat), gg < W.heap.size → (∀ o, o < 12 → W.cell? ⟨gg, o, none⟩ = some (.int .i64 (pq P Q o))) → Calls Try.prog 71 #[.agg #[.int .i64 A, .int .i64 B], .slice (some ⟨gg, 0, none⟩) 2 2] W fun x w' => x = .returned (.int .i64 0) ∧ Below W.heap.size W w') (ML : ∀ w : World, Calls Try.prog 77 #[.agg #[.int .i64 A, .int .i64 B], .agg #[.int .i64 (P 0), .int .i64 (P 1), .int .i64 (P 2), .int .i64 (P 3), .int .i64 (P 4), .int .i64 (P 5)]] w fun x w' => x = .returned (.int .i64 0) ∧ Below w.heap.size w w') (NO : ∀ w : World, Calls Try.prog 32 #[.agg #[.int .i64 A, .int .i64 B], .agg #[.int .i64 (P 0), .int .i64 (P 1), .int .i64 (P 2), .int .i64 (P 3), .int .i64 (P 4), .int .i64 (P 5)]] w fun x w' => x = .returned (.tuple #[.agg #[.int .i64 (R 0), .int .i64 (R 1), .int .i64 (R 2), .int .i64 (R 3), .int .i64 (R 4), .int .i64 (R 5)], .int .i64 e2]) ∧ Below w.heap.size w w') (CM : ∀ w : World, Calls Try.prog 73 #[.agg #[.int .i64 (R 0), .int .i64 (R 1), .int .i64 (R 2), .int .i64 (R 3), .int .i64 (R 4), .int .i64 (R 5)], .agg #[.int .i64 (Q 0), .int .i64 (Q 1), .int .i64 (Q 2), .int .i64 (Q 3), .int .i64 (Q 4), .int .i64 (Q 5)]] w fun x w' => x = .returned (.tuple #[.int .i64 sg, .int .i64 e]) ∧ Below w.heap.size w w') (w : World) :
    Calls Try.prog 34 #[.agg #[.int .i64 A, .int .i64 B], .agg #[.int .i64 (P 0), .int .i64 (P 1), .int .i64 (P 2), .int .i64 (P 3), .int .i64 (P 4), .int .i64 (P 5)], .agg #[.int .i64 (Q 0), .int .i64 (Q 1), .int .i64 (Q 2), .int .i64 (Q 3), .int .i64 (Q 4), .int .i64 (Q 5)]] w fun x w' => x = .returned (.tuple #[.int .i64 sg, .int .i64 e]) ∧ Below w.heap.size w w' := by
  have dAl := dAl; have dSt := dSt
  go_enter Try.func34, Try.ntmps34
  go_upto_region 1 with fail
  refine opq (fun wx => Cs wx (w.heap.size) 2 (fg2 A B) ∧ Cs wx (w.heap.size + 1) 6 P ∧ Cs wx (w.heap.size + 1 + 1) 6 Q ∧ w.heap.size + 1 + 1 < wx.heap.size ∧ Below w.heap.size w wx) ?_ ?_
  · exact ⟨cs_alloc _ (cs_alloc _ (cs_new (by simp) (arg2 A B)) (by simp <;> omega)) (by simp <;> omega), cs_alloc _ (cs_new (by simp) (arrV P)) (by simp <;> omega), cs_new (by simp) (arrV Q), by simp, by (repeat (first | with_reducible exact b0 _ | (with_reducible refine bext ?_ _ _) | (with_reducible refine below_drewN ?_ _) | (with_reducible refine Below.drew ?_) | (with_reducible refine bal ?_ _)))⟩
  rintro w0 ⟨c0, c1, c2, zs, HBa⟩
  have i0 : fg2 A B 0 = A := rfl
  have i1 : fg2 A B 1 = B := rfl
  have hc0 : ∀ o, o < 2 → w0.cell? ⟨w.heap.size, o, none⟩ = some (.int .i64 ((fg2 A B) o)) := c0
  have hc1 : ∀ o, o < 6 → w0.cell? ⟨w.heap.size + 1, o, none⟩ = some (.int .i64 (P o)) := c1
  have hc2 : ∀ o, o < 6 → w0.cell? ⟨w.heap.size + 1 + 1, o, none⟩ = some (.int .i64 (Q o)) := c2
  go_wp2_with fail
  with_reducible refine (CK _ _ ?_ ?_).mono ?_
  · simp
  · exact cs_new (by simp) (arrPQ P Q)
  rintro e v1 ⟨rfl, hb⟩
  replace hb := bt (bal (b0 _) _) hb
  clear hc0 hc1 hc2
  replace c0 := cs_below c0 hb (by omega)
  replace c1 := cs_below c1 hb (by omega)
  replace c2 := cs_below c2 hb (by omega)
  replace HBa := HBa.trans (hb.mono (by first | omega | exact HBa.size))
  replace zs := Nat.lt_of_lt_of_le zs hb.size
  clear hb
  have hc0 : ∀ o, o < 2 → v1.cell? ⟨w.heap.size, o, none⟩ = some (.int .i64 ((fg2 A B) o)) := c0
  have hc1 : ∀ o, o < 6 → v1.cell? ⟨w.heap.size + 1, o, none⟩ = some (.int .i64 (P o)) := c1
  have hc2 : ∀ o, o < 6 → v1.cell? ⟨w.heap.size + 1 + 1, o, none⟩ = some (.int .i64 (Q o)) := c2
  go_wp2_with fail
  with_reducible refine (ML _).mono ?_
  rintro e v2 ⟨rfl, hb⟩
  clear hc0 hc1 hc2
  replace c0 := cs_below c0 hb (by omega)
  replace c1 := cs_below c1 hb (by omega)
  replace c2 := cs_below c2 hb (by omega)
  replace HBa := HBa.trans (hb.mono (by first | omega | exact HBa.size))
  replace zs := Nat.lt_of_lt_of_le zs hb.size
  clear hb
  have hc0 : ∀ o, o < 2 → v2.cell? ⟨w.heap.size, o, none⟩ = some (.int .i64 ((fg2 A B) o)) := c0
  have hc1 : ∀ o, o < 6 → v2.cell? ⟨w.heap.size + 1, o, none⟩ = some (.int .i64 (P o)) := c1
  have hc2 : ∀ o, o < 6 → v2.cell? ⟨w.heap.size + 1 + 1, o, none⟩ = some (.int .i64 (Q o)) := c2
  go_wp2_with fail
  with_reducible refine (NO _).mono ?_
  rintro e v3 ⟨rfl, hb⟩
  clear hc0 hc1 hc2
  replace c0 := cs_below c0 hb (by omega)
  replace c1 := cs_below c1 hb (by omega)
  replace c2 := cs_below c2 hb (by omega)
  replace HBa := HBa.trans (hb.mono (by first | omega | exact HBa.size))
  replace zs := Nat.lt_of_lt_of_le zs hb.size
  clear hb
  have hc0 : ∀ o, o < 2 → v3.cell? ⟨w.heap.size, o, none⟩ = some (.int .i64 ((fg2 A B) o)) := c0
  have hc1 : ∀ o, o < 6 → v3.cell? ⟨w.heap.size + 1, o, none⟩ = some (.int .i64 (P o)) := c1
  have hc2 : ∀ o, o < 6 → v3.cell? ⟨w.heap.size + 1 + 1, o, none⟩ = some (.int .i64 (Q o)) := c2
  go_upto_region 8 with fail
  clear hc0 hc1 hc2
  have zb := HBa.size
  refine opq (fun wx => Cs wx (w.heap.size) 2 (fg2 A B) ∧ Cs wx (w.heap.size + 1) 6 P ∧ Cs wx (w.heap.size + 1 + 1) 6 Q ∧ Cs wx (v3.heap.size) 6 R ∧ v3.heap.size < wx.heap.size ∧ Below w.heap.size w wx) ?_ ?_
  · exact ⟨by (repeat (first | with_reducible exact c0 | with_reducible refine cs_drewN ?_ | with_reducible refine cs_drew ?_ | with_reducible refine cs_ext ?_ (by first | omega | (simp [ext_size, World.setCell] <;> omega)) _ _ | with_reducible refine cs_alloc _ ?_ (by first | omega | (simp [ext_size, World.setCell] <;> omega)) | with_reducible refine cs_up ?_ (by decide) | with_reducible refine cs_set _ ?_ (by first | omega | (simp <;> omega)))), by (repeat (first | with_reducible exact c1 | with_reducible refine cs_drewN ?_ | with_reducible refine cs_drew ?_ | with_reducible refine cs_ext ?_ (by first | omega | (simp [ext_size, World.setCell] <;> omega)) _ _ | with_reducible refine cs_alloc _ ?_ (by first | omega | (simp [ext_size, World.setCell] <;> omega)) | with_reducible refine cs_up ?_ (by decide) | with_reducible refine cs_set _ ?_ (by first | omega | (simp <;> omega)))), by (repeat (first | with_reducible exact c2 | with_reducible refine cs_drewN ?_ | with_reducible refine cs_drew ?_ | with_reducible refine cs_ext ?_ (by first | omega | (simp [ext_size, World.setCell] <;> omega)) _ _ | with_reducible refine cs_alloc _ ?_ (by first | omega | (simp [ext_size, World.setCell] <;> omega)) | with_reducible refine cs_up ?_ (by decide) | with_reducible refine cs_set _ ?_ (by first | omega | (simp <;> omega)))), by (intro o ho; rcases (show o = 0 ∨ o = 1 ∨ o = 2 ∨ o = 3 ∨ o = 4 ∨ o = 5 by omega) with rfl | rfl | rfl | rfl | rfl | rfl <;> (simp (maxDischargeDepth := 8) [fg2, fg6, go_sem, World.cell?_alloc_past, ltk2, ltk3, ltk4, ltk5])), by (simp [World.setCell] <;> omega), by (repeat (first | with_reducible exact HBa | (with_reducible refine bextm ?_ (by first | omega | (simp [ext_size, World.setCell] <;> omega)) _ _) | (with_reducible refine below_drewN ?_ _) | (with_reducible refine Below.drew ?_) | (with_reducible refine Below.alloc ?_ (by first | omega | (simp [ext_size, World.setCell] <;> omega)) _) | (with_reducible refine Below.setCell ?_ (by first | omega | (simp [ext_size, World.setCell] <;> omega)) _)))⟩
  have yy4 := zs
  clear c0 c1 c2 HBa zb zs
  generalize hq : v3.heap.size = q3 at *
  clear hq
  rintro uu4 ⟨c0, c1, c2, d0, zn, HBa⟩
  have zs := zn
  clear zn
  have hc0 : ∀ o, o < 2 → uu4.cell? ⟨w.heap.size, o, none⟩ = some (.int .i64 ((fg2 A B) o)) := c0
  have hc1 : ∀ o, o < 6 → uu4.cell? ⟨w.heap.size + 1, o, none⟩ = some (.int .i64 (P o)) := c1
  have hc2 : ∀ o, o < 6 → uu4.cell? ⟨w.heap.size + 1 + 1, o, none⟩ = some (.int .i64 (Q o)) := c2
  have hd0 : ∀ o, o < 6 → uu4.cell? ⟨q3, o, none⟩ = some (.int .i64 (R o)) := d0
  go_wp2_with fail
  with_reducible refine (CM _).mono ?_
  rintro e v5 ⟨rfl, hb⟩
  clear hc0 hc1 hc2 hd0
  replace c0 := cs_below c0 hb (by omega)
  replace c1 := cs_below c1 hb (by omega)
  replace c2 := cs_below c2 hb (by omega)
  replace d0 := cs_below d0 hb (by omega)
  replace HBa := HBa.trans (hb.mono (by first | omega | exact HBa.size))
  replace zs := Nat.lt_of_lt_of_le zs hb.size
  clear hb
  go_wp2
  refine bodyPost_ret (by simp [results, Try.results34, go_sem, ext_cell, World.cell?_alloc_past, ltk2, ltk3, ltk4, ltk5, ltk6, ltk7, ltk8, ltk9, *]; try rfl) rfl ?_
  exact ⟨rfl, HBa⟩
end Go.Proofs.Ytdolfdmgdknboaa
namespace Go.Proofs.Ytdolfdmgdknboaa
open Go.RowKit
set_option linter.unusedVariables false
set_option linter.unusedSimpArgs false

set_option maxRecDepth 100000 in
set_option maxHeartbeats 16000000 in
theorem gturned_out_0 (Q : Nat → Int) (A B n d p q r s : Int) (H0 : ∀ w : World, Calls Try.prog 29 #[.agg #[.int .i64 A, .int .i64 B]] w fun x w' => x = .returned (.int .i64 2) ∧ Below w.heap.size w w') (HA : ∀ w : World, Calls Try.prog 37 #[] w fun x w' => x = .returned (.bool true) ∧ Below w.heap.size w w') (w : World) :
    Calls Try.prog 8 #[.agg #[.int .i64 A, .int .i64 B], .agg #[.int .i64 n, .int .i64 d], .agg #[.int .i64 p, .int .i64 q], .agg #[.int .i64 r, .int .i64 s], .agg #[.int .i64 (Q 0), .int .i64 (Q 1), .int .i64 (Q 2), .int .i64 (Q 3), .int .i64 (Q 4), .int .i64 (Q 5)]] w fun x w' => x = .returned (.bool true) ∧ Below w.heap.size w w' := by
  have S0 := Lib.hid H0
  have AL := Lib.hid HA
  clear HA H0
  have dAl := dAl; have dSt := dSt
  go_enter Try.func8, Try.ntmps8
  go_upto_region 1 with fail
  refine opq (fun wx => Cs wx (w.heap.size) 2 (fg2 A B) ∧ Cs wx (w.heap.size + 1) 2 (fg2 n d) ∧ Cs wx (w.heap.size + 1 + 1) 2 (fg2 p q) ∧ Cs wx (w.heap.size + 1 + 1 + 1) 2 (fg2 r s) ∧ Cs wx (w.heap.size + 1 + 1 + 1 + 1) 6 (Q) ∧ w.heap.size + 1 + 1 + 1 + 1 < wx.heap.size ∧ Below w.heap.size w wx) ?_ ?_
  · exact ⟨cs_alloc _ (cs_alloc _ (cs_alloc _ (cs_alloc _ (cs_new (by simp) (arg2 A B)) (by simp <;> omega)) (by simp <;> omega)) (by simp <;> omega)) (by simp <;> omega), cs_alloc _ (cs_alloc _ (cs_alloc _ (cs_new (by simp) (arg2 n d)) (by simp <;> omega)) (by simp <;> omega)) (by simp <;> omega), cs_alloc _ (cs_alloc _ (cs_new (by simp) (arg2 p q)) (by simp <;> omega)) (by simp <;> omega), cs_alloc _ (cs_new (by simp) (arg2 r s)) (by simp <;> omega), cs_new (by simp) (arrV Q), by simp, by (repeat (first | with_reducible exact b0 _ | (with_reducible refine bext ?_ _ _) | (with_reducible refine below_drewN ?_ _) | (with_reducible refine Below.drew ?_) | (with_reducible refine bal ?_ _)))⟩
  rintro w0 ⟨cG, cS, cT, cU, cQ, zs, HBa⟩
  have hG : ∀ o, o < 2 → w0.cell? ⟨w.heap.size, o, none⟩ = some (.int .i64 (fg2 A B o)) := cG
  have hS : ∀ o, o < 2 → w0.cell? ⟨w.heap.size + 1, o, none⟩ = some (.int .i64 (fg2 n d o)) := cS
  have hT : ∀ o, o < 2 → w0.cell? ⟨w.heap.size + 1 + 1, o, none⟩ = some (.int .i64 (fg2 p q o)) := cT
  have hU : ∀ o, o < 2 → w0.cell? ⟨w.heap.size + 1 + 1 + 1, o, none⟩ = some (.int .i64 (fg2 r s o)) := cU
  have hQ : ∀ o, o < 6 → w0.cell? ⟨w.heap.size + 1 + 1 + 1 + 1, o, none⟩ = some (.int .i64 (Q o)) := cQ
  have i0 : fg2 A B 0 = A := rfl
  have i1 : fg2 A B 1 = B := rfl
  have i2 : fg2 n d 0 = n := rfl
  have i3 : fg2 n d 1 = d := rfl
  have i4 : fg2 p q 0 = p := rfl
  have i5 : fg2 p q 1 = q := rfl
  have i6 : fg2 r s 0 = r := rfl
  have i7 : fg2 r s 1 = s := rfl
  go_wp2_with fail
  with_reducible refine (S0.out _).mono ?_
  rintro e v0 ⟨rfl, hb⟩
  clear hG hS hT hU hQ
  replace cG := cs_below cG hb (by omega)
  replace cS := cs_below cS hb (by omega)
  replace cT := cs_below cT hb (by omega)
  replace cU := cs_below cU hb (by omega)
  replace cQ := cs_below cQ hb (by omega)
  replace HBa := HBa.trans (hb.mono (by omega))
  replace zs := Nat.lt_of_lt_of_le zs hb.size
  clear hb
  have hG : ∀ o, o < 2 → v0.cell? ⟨w.heap.size, o, none⟩ = some (.int .i64 (fg2 A B o)) := cG
  have hS : ∀ o, o < 2 → v0.cell? ⟨w.heap.size + 1, o, none⟩ = some (.int .i64 (fg2 n d o)) := cS
  have hT : ∀ o, o < 2 → v0.cell? ⟨w.heap.size + 1 + 1, o, none⟩ = some (.int .i64 (fg2 p q o)) := cT
  have hU : ∀ o, o < 2 → v0.cell? ⟨w.heap.size + 1 + 1 + 1, o, none⟩ = some (.int .i64 (fg2 r s o)) := cU
  have hQ : ∀ o, o < 6 → v0.cell? ⟨w.heap.size + 1 + 1 + 1 + 1, o, none⟩ = some (.int .i64 (Q o)) := cQ
  go_wp2_with fail
  with_reducible refine (AL.out _).mono ?_
  rintro e z1 ⟨rfl, hb⟩
  go_wp2_with fail
  go_ret
  exact ⟨rfl, HBa.trans (hb.mono (by omega))⟩
set_option maxRecDepth 100000 in
set_option maxHeartbeats 16000000 in
theorem gturned_out_1 (Q : Nat → Int) (A B n d p q r s : Int) (H0 : ∀ w : World, Calls Try.prog 29 #[.agg #[.int .i64 A, .int .i64 B]] w fun x w' => x = .returned (.int .i64 0) ∧ Below w.heap.size w w') (H1 : ∀ w : World, Calls Try.prog 36 #[.agg #[.int .i64 n, .int .i64 d], .agg #[.int .i64 p, .int .i64 q]] w fun x w' => x = .returned (.bool false) ∧ Below w.heap.size w w') (HA : ∀ w : World, Calls Try.prog 37 #[] w fun x w' => x = .returned (.bool true) ∧ Below w.heap.size w w') (w : World) :
    Calls Try.prog 8 #[.agg #[.int .i64 A, .int .i64 B], .agg #[.int .i64 n, .int .i64 d], .agg #[.int .i64 p, .int .i64 q], .agg #[.int .i64 r, .int .i64 s], .agg #[.int .i64 (Q 0), .int .i64 (Q 1), .int .i64 (Q 2), .int .i64 (Q 3), .int .i64 (Q 4), .int .i64 (Q 5)]] w fun x w' => x = .returned (.bool true) ∧ Below w.heap.size w w' := by
  have S0 := Lib.hid H0
  have S1 := Lib.hid H1
  have AL := Lib.hid HA
  clear HA H0 H1
  have dAl := dAl; have dSt := dSt
  go_enter Try.func8, Try.ntmps8
  go_upto_region 1 with fail
  refine opq (fun wx => Cs wx (w.heap.size) 2 (fg2 A B) ∧ Cs wx (w.heap.size + 1) 2 (fg2 n d) ∧ Cs wx (w.heap.size + 1 + 1) 2 (fg2 p q) ∧ Cs wx (w.heap.size + 1 + 1 + 1) 2 (fg2 r s) ∧ Cs wx (w.heap.size + 1 + 1 + 1 + 1) 6 (Q) ∧ w.heap.size + 1 + 1 + 1 + 1 < wx.heap.size ∧ Below w.heap.size w wx) ?_ ?_
  · exact ⟨cs_alloc _ (cs_alloc _ (cs_alloc _ (cs_alloc _ (cs_new (by simp) (arg2 A B)) (by simp <;> omega)) (by simp <;> omega)) (by simp <;> omega)) (by simp <;> omega), cs_alloc _ (cs_alloc _ (cs_alloc _ (cs_new (by simp) (arg2 n d)) (by simp <;> omega)) (by simp <;> omega)) (by simp <;> omega), cs_alloc _ (cs_alloc _ (cs_new (by simp) (arg2 p q)) (by simp <;> omega)) (by simp <;> omega), cs_alloc _ (cs_new (by simp) (arg2 r s)) (by simp <;> omega), cs_new (by simp) (arrV Q), by simp, by (repeat (first | with_reducible exact b0 _ | (with_reducible refine bext ?_ _ _) | (with_reducible refine below_drewN ?_ _) | (with_reducible refine Below.drew ?_) | (with_reducible refine bal ?_ _)))⟩
  rintro w0 ⟨cG, cS, cT, cU, cQ, zs, HBa⟩
  have hG : ∀ o, o < 2 → w0.cell? ⟨w.heap.size, o, none⟩ = some (.int .i64 (fg2 A B o)) := cG
  have hS : ∀ o, o < 2 → w0.cell? ⟨w.heap.size + 1, o, none⟩ = some (.int .i64 (fg2 n d o)) := cS
  have hT : ∀ o, o < 2 → w0.cell? ⟨w.heap.size + 1 + 1, o, none⟩ = some (.int .i64 (fg2 p q o)) := cT
  have hU : ∀ o, o < 2 → w0.cell? ⟨w.heap.size + 1 + 1 + 1, o, none⟩ = some (.int .i64 (fg2 r s o)) := cU
  have hQ : ∀ o, o < 6 → w0.cell? ⟨w.heap.size + 1 + 1 + 1 + 1, o, none⟩ = some (.int .i64 (Q o)) := cQ
  have i0 : fg2 A B 0 = A := rfl
  have i1 : fg2 A B 1 = B := rfl
  have i2 : fg2 n d 0 = n := rfl
  have i3 : fg2 n d 1 = d := rfl
  have i4 : fg2 p q 0 = p := rfl
  have i5 : fg2 p q 1 = q := rfl
  have i6 : fg2 r s 0 = r := rfl
  have i7 : fg2 r s 1 = s := rfl
  go_wp2_with fail
  with_reducible refine (S0.out _).mono ?_
  rintro e v0 ⟨rfl, hb⟩
  clear hG hS hT hU hQ
  replace cG := cs_below cG hb (by omega)
  replace cS := cs_below cS hb (by omega)
  replace cT := cs_below cT hb (by omega)
  replace cU := cs_below cU hb (by omega)
  replace cQ := cs_below cQ hb (by omega)
  replace HBa := HBa.trans (hb.mono (by omega))
  replace zs := Nat.lt_of_lt_of_le zs hb.size
  clear hb
  have hG : ∀ o, o < 2 → v0.cell? ⟨w.heap.size, o, none⟩ = some (.int .i64 (fg2 A B o)) := cG
  have hS : ∀ o, o < 2 → v0.cell? ⟨w.heap.size + 1, o, none⟩ = some (.int .i64 (fg2 n d o)) := cS
  have hT : ∀ o, o < 2 → v0.cell? ⟨w.heap.size + 1 + 1, o, none⟩ = some (.int .i64 (fg2 p q o)) := cT
  have hU : ∀ o, o < 2 → v0.cell? ⟨w.heap.size + 1 + 1 + 1, o, none⟩ = some (.int .i64 (fg2 r s o)) := cU
  have hQ : ∀ o, o < 6 → v0.cell? ⟨w.heap.size + 1 + 1 + 1 + 1, o, none⟩ = some (.int .i64 (Q o)) := cQ
  go_wp2_with fail
  with_reducible refine (S1.out _).mono ?_
  rintro e v1 ⟨rfl, hb⟩
  clear hG hS hT hU hQ
  replace cG := cs_below cG hb (by omega)
  replace cS := cs_below cS hb (by omega)
  replace cT := cs_below cT hb (by omega)
  replace cU := cs_below cU hb (by omega)
  replace cQ := cs_below cQ hb (by omega)
  replace HBa := HBa.trans (hb.mono (by omega))
  replace zs := Nat.lt_of_lt_of_le zs hb.size
  clear hb
  have hG : ∀ o, o < 2 → v1.cell? ⟨w.heap.size, o, none⟩ = some (.int .i64 (fg2 A B o)) := cG
  have hS : ∀ o, o < 2 → v1.cell? ⟨w.heap.size + 1, o, none⟩ = some (.int .i64 (fg2 n d o)) := cS
  have hT : ∀ o, o < 2 → v1.cell? ⟨w.heap.size + 1 + 1, o, none⟩ = some (.int .i64 (fg2 p q o)) := cT
  have hU : ∀ o, o < 2 → v1.cell? ⟨w.heap.size + 1 + 1 + 1, o, none⟩ = some (.int .i64 (fg2 r s o)) := cU
  have hQ : ∀ o, o < 6 → v1.cell? ⟨w.heap.size + 1 + 1 + 1 + 1, o, none⟩ = some (.int .i64 (Q o)) := cQ
  go_wp2_with fail
  with_reducible refine (AL.out _).mono ?_
  rintro e z1 ⟨rfl, hb⟩
  go_wp2_with fail
  go_ret
  exact ⟨rfl, HBa.trans (hb.mono (by omega))⟩
set_option maxRecDepth 100000 in
set_option maxHeartbeats 16000000 in
theorem gturned_out_2 (Q : Nat → Int) (A B n d p q r s : Int) (H0 : ∀ w : World, Calls Try.prog 29 #[.agg #[.int .i64 A, .int .i64 B]] w fun x w' => x = .returned (.int .i64 0) ∧ Below w.heap.size w w') (H1 : ∀ w : World, Calls Try.prog 36 #[.agg #[.int .i64 n, .int .i64 d], .agg #[.int .i64 p, .int .i64 q]] w fun x w' => x = .returned (.bool true) ∧ Below w.heap.size w w') (H2 : ∀ w : World, Calls Try.prog 39 #[.agg #[.int .i64 r, .int .i64 s]] w fun x w' => x = .returned (.bool false) ∧ Below w.heap.size w w') (HA : ∀ w : World, Calls Try.prog 37 #[] w fun x w' => x = .returned (.bool true) ∧ Below w.heap.size w w') (w : World) :
    Calls Try.prog 8 #[.agg #[.int .i64 A, .int .i64 B], .agg #[.int .i64 n, .int .i64 d], .agg #[.int .i64 p, .int .i64 q], .agg #[.int .i64 r, .int .i64 s], .agg #[.int .i64 (Q 0), .int .i64 (Q 1), .int .i64 (Q 2), .int .i64 (Q 3), .int .i64 (Q 4), .int .i64 (Q 5)]] w fun x w' => x = .returned (.bool true) ∧ Below w.heap.size w w' := by
  have S0 := Lib.hid H0
  have S1 := Lib.hid H1
  have S2 := Lib.hid H2
  have AL := Lib.hid HA
  clear HA H0 H1 H2
  have dAl := dAl; have dSt := dSt
  go_enter Try.func8, Try.ntmps8
  go_upto_region 1 with fail
  refine opq (fun wx => Cs wx (w.heap.size) 2 (fg2 A B) ∧ Cs wx (w.heap.size + 1) 2 (fg2 n d) ∧ Cs wx (w.heap.size + 1 + 1) 2 (fg2 p q) ∧ Cs wx (w.heap.size + 1 + 1 + 1) 2 (fg2 r s) ∧ Cs wx (w.heap.size + 1 + 1 + 1 + 1) 6 (Q) ∧ w.heap.size + 1 + 1 + 1 + 1 < wx.heap.size ∧ Below w.heap.size w wx) ?_ ?_
  · exact ⟨cs_alloc _ (cs_alloc _ (cs_alloc _ (cs_alloc _ (cs_new (by simp) (arg2 A B)) (by simp <;> omega)) (by simp <;> omega)) (by simp <;> omega)) (by simp <;> omega), cs_alloc _ (cs_alloc _ (cs_alloc _ (cs_new (by simp) (arg2 n d)) (by simp <;> omega)) (by simp <;> omega)) (by simp <;> omega), cs_alloc _ (cs_alloc _ (cs_new (by simp) (arg2 p q)) (by simp <;> omega)) (by simp <;> omega), cs_alloc _ (cs_new (by simp) (arg2 r s)) (by simp <;> omega), cs_new (by simp) (arrV Q), by simp, by (repeat (first | with_reducible exact b0 _ | (with_reducible refine bext ?_ _ _) | (with_reducible refine below_drewN ?_ _) | (with_reducible refine Below.drew ?_) | (with_reducible refine bal ?_ _)))⟩
  rintro w0 ⟨cG, cS, cT, cU, cQ, zs, HBa⟩
  have hG : ∀ o, o < 2 → w0.cell? ⟨w.heap.size, o, none⟩ = some (.int .i64 (fg2 A B o)) := cG
  have hS : ∀ o, o < 2 → w0.cell? ⟨w.heap.size + 1, o, none⟩ = some (.int .i64 (fg2 n d o)) := cS
  have hT : ∀ o, o < 2 → w0.cell? ⟨w.heap.size + 1 + 1, o, none⟩ = some (.int .i64 (fg2 p q o)) := cT
  have hU : ∀ o, o < 2 → w0.cell? ⟨w.heap.size + 1 + 1 + 1, o, none⟩ = some (.int .i64 (fg2 r s o)) := cU
  have hQ : ∀ o, o < 6 → w0.cell? ⟨w.heap.size + 1 + 1 + 1 + 1, o, none⟩ = some (.int .i64 (Q o)) := cQ
  have i0 : fg2 A B 0 = A := rfl
  have i1 : fg2 A B 1 = B := rfl
  have i2 : fg2 n d 0 = n := rfl
  have i3 : fg2 n d 1 = d := rfl
  have i4 : fg2 p q 0 = p := rfl
  have i5 : fg2 p q 1 = q := rfl
  have i6 : fg2 r s 0 = r := rfl
  have i7 : fg2 r s 1 = s := rfl
  go_wp2_with fail
  with_reducible refine (S0.out _).mono ?_
  rintro e v0 ⟨rfl, hb⟩
  clear hG hS hT hU hQ
  replace cG := cs_below cG hb (by omega)
  replace cS := cs_below cS hb (by omega)
  replace cT := cs_below cT hb (by omega)
  replace cU := cs_below cU hb (by omega)
  replace cQ := cs_below cQ hb (by omega)
  replace HBa := HBa.trans (hb.mono (by omega))
  replace zs := Nat.lt_of_lt_of_le zs hb.size
  clear hb
  have hG : ∀ o, o < 2 → v0.cell? ⟨w.heap.size, o, none⟩ = some (.int .i64 (fg2 A B o)) := cG
  have hS : ∀ o, o < 2 → v0.cell? ⟨w.heap.size + 1, o, none⟩ = some (.int .i64 (fg2 n d o)) := cS
  have hT : ∀ o, o < 2 → v0.cell? ⟨w.heap.size + 1 + 1, o, none⟩ = some (.int .i64 (fg2 p q o)) := cT
  have hU : ∀ o, o < 2 → v0.cell? ⟨w.heap.size + 1 + 1 + 1, o, none⟩ = some (.int .i64 (fg2 r s o)) := cU
  have hQ : ∀ o, o < 6 → v0.cell? ⟨w.heap.size + 1 + 1 + 1 + 1, o, none⟩ = some (.int .i64 (Q o)) := cQ
  go_wp2_with fail
  with_reducible refine (S1.out _).mono ?_
  rintro e v1 ⟨rfl, hb⟩
  clear hG hS hT hU hQ
  replace cG := cs_below cG hb (by omega)
  replace cS := cs_below cS hb (by omega)
  replace cT := cs_below cT hb (by omega)
  replace cU := cs_below cU hb (by omega)
  replace cQ := cs_below cQ hb (by omega)
  replace HBa := HBa.trans (hb.mono (by omega))
  replace zs := Nat.lt_of_lt_of_le zs hb.size
  clear hb
  have hG : ∀ o, o < 2 → v1.cell? ⟨w.heap.size, o, none⟩ = some (.int .i64 (fg2 A B o)) := cG
  have hS : ∀ o, o < 2 → v1.cell? ⟨w.heap.size + 1, o, none⟩ = some (.int .i64 (fg2 n d o)) := cS
  have hT : ∀ o, o < 2 → v1.cell? ⟨w.heap.size + 1 + 1, o, none⟩ = some (.int .i64 (fg2 p q o)) := cT
  have hU : ∀ o, o < 2 → v1.cell? ⟨w.heap.size + 1 + 1 + 1, o, none⟩ = some (.int .i64 (fg2 r s o)) := cU
  have hQ : ∀ o, o < 6 → v1.cell? ⟨w.heap.size + 1 + 1 + 1 + 1, o, none⟩ = some (.int .i64 (Q o)) := cQ
  go_wp2_with fail
  with_reducible refine (S2.out _).mono ?_
  rintro e v2 ⟨rfl, hb⟩
  clear hG hS hT hU hQ
  replace cG := cs_below cG hb (by omega)
  replace cS := cs_below cS hb (by omega)
  replace cT := cs_below cT hb (by omega)
  replace cU := cs_below cU hb (by omega)
  replace cQ := cs_below cQ hb (by omega)
  replace HBa := HBa.trans (hb.mono (by omega))
  replace zs := Nat.lt_of_lt_of_le zs hb.size
  clear hb
  have hG : ∀ o, o < 2 → v2.cell? ⟨w.heap.size, o, none⟩ = some (.int .i64 (fg2 A B o)) := cG
  have hS : ∀ o, o < 2 → v2.cell? ⟨w.heap.size + 1, o, none⟩ = some (.int .i64 (fg2 n d o)) := cS
  have hT : ∀ o, o < 2 → v2.cell? ⟨w.heap.size + 1 + 1, o, none⟩ = some (.int .i64 (fg2 p q o)) := cT
  have hU : ∀ o, o < 2 → v2.cell? ⟨w.heap.size + 1 + 1 + 1, o, none⟩ = some (.int .i64 (fg2 r s o)) := cU
  have hQ : ∀ o, o < 6 → v2.cell? ⟨w.heap.size + 1 + 1 + 1 + 1, o, none⟩ = some (.int .i64 (Q o)) := cQ
  go_wp2_with fail
  with_reducible refine (AL.out _).mono ?_
  rintro e z1 ⟨rfl, hb⟩
  go_wp2_with fail
  go_ret
  exact ⟨rfl, HBa.trans (hb.mono (by omega))⟩
set_option maxRecDepth 100000 in
set_option maxHeartbeats 16000000 in
theorem gturned_out_3 (Q : Nat → Int) (A B n d p q r s : Int) (H0 : ∀ w : World, Calls Try.prog 29 #[.agg #[.int .i64 A, .int .i64 B]] w fun x w' => x = .returned (.int .i64 0) ∧ Below w.heap.size w w') (H1 : ∀ w : World, Calls Try.prog 36 #[.agg #[.int .i64 n, .int .i64 d], .agg #[.int .i64 p, .int .i64 q]] w fun x w' => x = .returned (.bool true) ∧ Below w.heap.size w w') (H2 : ∀ w : World, Calls Try.prog 39 #[.agg #[.int .i64 r, .int .i64 s]] w fun x w' => x = .returned (.bool true) ∧ Below w.heap.size w w') (H3 : ∀ w : World, Calls Try.prog 40 #[.agg #[.int .i64 (Q 0), .int .i64 (Q 1), .int .i64 (Q 2), .int .i64 (Q 3), .int .i64 (Q 4), .int .i64 (Q 5)]] w fun x w' => x = .returned (.int .i64 8) ∧ Below w.heap.size w w') (HA : ∀ w : World, Calls Try.prog 37 #[] w fun x w' => x = .returned (.bool true) ∧ Below w.heap.size w w') (w : World) :
    Calls Try.prog 8 #[.agg #[.int .i64 A, .int .i64 B], .agg #[.int .i64 n, .int .i64 d], .agg #[.int .i64 p, .int .i64 q], .agg #[.int .i64 r, .int .i64 s], .agg #[.int .i64 (Q 0), .int .i64 (Q 1), .int .i64 (Q 2), .int .i64 (Q 3), .int .i64 (Q 4), .int .i64 (Q 5)]] w fun x w' => x = .returned (.bool true) ∧ Below w.heap.size w w' := by
  have S0 := Lib.hid H0
  have S1 := Lib.hid H1
  have S2 := Lib.hid H2
  have S3 := Lib.hid H3
  have AL := Lib.hid HA
  clear HA H0 H1 H2 H3
  have dAl := dAl; have dSt := dSt
  go_enter Try.func8, Try.ntmps8
  go_upto_region 1 with fail
  refine opq (fun wx => Cs wx (w.heap.size) 2 (fg2 A B) ∧ Cs wx (w.heap.size + 1) 2 (fg2 n d) ∧ Cs wx (w.heap.size + 1 + 1) 2 (fg2 p q) ∧ Cs wx (w.heap.size + 1 + 1 + 1) 2 (fg2 r s) ∧ Cs wx (w.heap.size + 1 + 1 + 1 + 1) 6 (Q) ∧ w.heap.size + 1 + 1 + 1 + 1 < wx.heap.size ∧ Below w.heap.size w wx) ?_ ?_
  · exact ⟨cs_alloc _ (cs_alloc _ (cs_alloc _ (cs_alloc _ (cs_new (by simp) (arg2 A B)) (by simp <;> omega)) (by simp <;> omega)) (by simp <;> omega)) (by simp <;> omega), cs_alloc _ (cs_alloc _ (cs_alloc _ (cs_new (by simp) (arg2 n d)) (by simp <;> omega)) (by simp <;> omega)) (by simp <;> omega), cs_alloc _ (cs_alloc _ (cs_new (by simp) (arg2 p q)) (by simp <;> omega)) (by simp <;> omega), cs_alloc _ (cs_new (by simp) (arg2 r s)) (by simp <;> omega), cs_new (by simp) (arrV Q), by simp, by (repeat (first | with_reducible exact b0 _ | (with_reducible refine bext ?_ _ _) | (with_reducible refine below_drewN ?_ _) | (with_reducible refine Below.drew ?_) | (with_reducible refine bal ?_ _)))⟩
  rintro w0 ⟨cG, cS, cT, cU, cQ, zs, HBa⟩
  have hG : ∀ o, o < 2 → w0.cell? ⟨w.heap.size, o, none⟩ = some (.int .i64 (fg2 A B o)) := cG
  have hS : ∀ o, o < 2 → w0.cell? ⟨w.heap.size + 1, o, none⟩ = some (.int .i64 (fg2 n d o)) := cS
  have hT : ∀ o, o < 2 → w0.cell? ⟨w.heap.size + 1 + 1, o, none⟩ = some (.int .i64 (fg2 p q o)) := cT
  have hU : ∀ o, o < 2 → w0.cell? ⟨w.heap.size + 1 + 1 + 1, o, none⟩ = some (.int .i64 (fg2 r s o)) := cU
  have hQ : ∀ o, o < 6 → w0.cell? ⟨w.heap.size + 1 + 1 + 1 + 1, o, none⟩ = some (.int .i64 (Q o)) := cQ
  have i0 : fg2 A B 0 = A := rfl
  have i1 : fg2 A B 1 = B := rfl
  have i2 : fg2 n d 0 = n := rfl
  have i3 : fg2 n d 1 = d := rfl
  have i4 : fg2 p q 0 = p := rfl
  have i5 : fg2 p q 1 = q := rfl
  have i6 : fg2 r s 0 = r := rfl
  have i7 : fg2 r s 1 = s := rfl
  go_wp2_with fail
  with_reducible refine (S0.out _).mono ?_
  rintro e v0 ⟨rfl, hb⟩
  clear hG hS hT hU hQ
  replace cG := cs_below cG hb (by omega)
  replace cS := cs_below cS hb (by omega)
  replace cT := cs_below cT hb (by omega)
  replace cU := cs_below cU hb (by omega)
  replace cQ := cs_below cQ hb (by omega)
  replace HBa := HBa.trans (hb.mono (by omega))
  replace zs := Nat.lt_of_lt_of_le zs hb.size
  clear hb
  have hG : ∀ o, o < 2 → v0.cell? ⟨w.heap.size, o, none⟩ = some (.int .i64 (fg2 A B o)) := cG
  have hS : ∀ o, o < 2 → v0.cell? ⟨w.heap.size + 1, o, none⟩ = some (.int .i64 (fg2 n d o)) := cS
  have hT : ∀ o, o < 2 → v0.cell? ⟨w.heap.size + 1 + 1, o, none⟩ = some (.int .i64 (fg2 p q o)) := cT
  have hU : ∀ o, o < 2 → v0.cell? ⟨w.heap.size + 1 + 1 + 1, o, none⟩ = some (.int .i64 (fg2 r s o)) := cU
  have hQ : ∀ o, o < 6 → v0.cell? ⟨w.heap.size + 1 + 1 + 1 + 1, o, none⟩ = some (.int .i64 (Q o)) := cQ
  go_wp2_with fail
  with_reducible refine (S1.out _).mono ?_
  rintro e v1 ⟨rfl, hb⟩
  clear hG hS hT hU hQ
  replace cG := cs_below cG hb (by omega)
  replace cS := cs_below cS hb (by omega)
  replace cT := cs_below cT hb (by omega)
  replace cU := cs_below cU hb (by omega)
  replace cQ := cs_below cQ hb (by omega)
  replace HBa := HBa.trans (hb.mono (by omega))
  replace zs := Nat.lt_of_lt_of_le zs hb.size
  clear hb
  have hG : ∀ o, o < 2 → v1.cell? ⟨w.heap.size, o, none⟩ = some (.int .i64 (fg2 A B o)) := cG
  have hS : ∀ o, o < 2 → v1.cell? ⟨w.heap.size + 1, o, none⟩ = some (.int .i64 (fg2 n d o)) := cS
  have hT : ∀ o, o < 2 → v1.cell? ⟨w.heap.size + 1 + 1, o, none⟩ = some (.int .i64 (fg2 p q o)) := cT
  have hU : ∀ o, o < 2 → v1.cell? ⟨w.heap.size + 1 + 1 + 1, o, none⟩ = some (.int .i64 (fg2 r s o)) := cU
  have hQ : ∀ o, o < 6 → v1.cell? ⟨w.heap.size + 1 + 1 + 1 + 1, o, none⟩ = some (.int .i64 (Q o)) := cQ
  go_wp2_with fail
  with_reducible refine (S2.out _).mono ?_
  rintro e v2 ⟨rfl, hb⟩
  clear hG hS hT hU hQ
  replace cG := cs_below cG hb (by omega)
  replace cS := cs_below cS hb (by omega)
  replace cT := cs_below cT hb (by omega)
  replace cU := cs_below cU hb (by omega)
  replace cQ := cs_below cQ hb (by omega)
  replace HBa := HBa.trans (hb.mono (by omega))
  replace zs := Nat.lt_of_lt_of_le zs hb.size
  clear hb
  have hG : ∀ o, o < 2 → v2.cell? ⟨w.heap.size, o, none⟩ = some (.int .i64 (fg2 A B o)) := cG
  have hS : ∀ o, o < 2 → v2.cell? ⟨w.heap.size + 1, o, none⟩ = some (.int .i64 (fg2 n d o)) := cS
  have hT : ∀ o, o < 2 → v2.cell? ⟨w.heap.size + 1 + 1, o, none⟩ = some (.int .i64 (fg2 p q o)) := cT
  have hU : ∀ o, o < 2 → v2.cell? ⟨w.heap.size + 1 + 1 + 1, o, none⟩ = some (.int .i64 (fg2 r s o)) := cU
  have hQ : ∀ o, o < 6 → v2.cell? ⟨w.heap.size + 1 + 1 + 1 + 1, o, none⟩ = some (.int .i64 (Q o)) := cQ
  go_wp2_with fail
  with_reducible refine (S3.out _).mono ?_
  rintro e v3 ⟨rfl, hb⟩
  clear hG hS hT hU hQ
  replace cG := cs_below cG hb (by omega)
  replace cS := cs_below cS hb (by omega)
  replace cT := cs_below cT hb (by omega)
  replace cU := cs_below cU hb (by omega)
  replace cQ := cs_below cQ hb (by omega)
  replace HBa := HBa.trans (hb.mono (by omega))
  replace zs := Nat.lt_of_lt_of_le zs hb.size
  clear hb
  have hG : ∀ o, o < 2 → v3.cell? ⟨w.heap.size, o, none⟩ = some (.int .i64 (fg2 A B o)) := cG
  have hS : ∀ o, o < 2 → v3.cell? ⟨w.heap.size + 1, o, none⟩ = some (.int .i64 (fg2 n d o)) := cS
  have hT : ∀ o, o < 2 → v3.cell? ⟨w.heap.size + 1 + 1, o, none⟩ = some (.int .i64 (fg2 p q o)) := cT
  have hU : ∀ o, o < 2 → v3.cell? ⟨w.heap.size + 1 + 1 + 1, o, none⟩ = some (.int .i64 (fg2 r s o)) := cU
  have hQ : ∀ o, o < 6 → v3.cell? ⟨w.heap.size + 1 + 1 + 1 + 1, o, none⟩ = some (.int .i64 (Q o)) := cQ
  go_wp2_with fail
  with_reducible refine (AL.out _).mono ?_
  rintro e z1 ⟨rfl, hb⟩
  go_wp2_with fail
  go_ret
  exact ⟨rfl, HBa.trans (hb.mono (by omega))⟩
set_option maxRecDepth 100000 in
set_option maxHeartbeats 16000000 in
theorem gturned_walk (Q P X Y M : Nat → Int) (A B n d p q r s ei ej e1 e2 e3 e4 n1 n2 n3 n4 : Int) (bo : Bool) (hJ : ej = 0 ∨ ej = 16) (hB : ej = 0 → bo = true) (h1 : e1 = 0 → e2 = 0 → n1 = n2) (h2 : e3 = 0 → e4 = 0 → n3 = n4)
    (hL : ei = 0 → (∀ w : World, Calls Try.prog 26 #[.agg #[.int .i64 A, .int .i64 B], .agg #[.int .i64 (Y 0), .int .i64 (Y 1), .int .i64 (Y 2), .int .i64 (Y 3), .int .i64 (Y 4), .int .i64 (Y 5)]] w fun x w' => x = .returned (.tuple #[.int .i64 n2, .int .i64 e2]) ∧ Below w.heap.size w w') ∧ (∀ w : World, Calls Try.prog 34 #[.agg #[.int .i64 A, .int .i64 B], .agg #[.int .i64 (X 0), .int .i64 (X 1), .int .i64 (X 2), .int .i64 (X 3), .int .i64 (X 4), .int .i64 (X 5)], .agg #[.int .i64 (Y 0), .int .i64 (Y 1), .int .i64 (Y 2), .int .i64 (Y 3), .int .i64 (Y 4), .int .i64 (Y 5)]] w fun x w' => x = .returned (.tuple #[.int .i64 n4, .int .i64 e4]) ∧ Below w.heap.size w w'))
    (HC : ∀ w : World, Calls Try.prog 29 #[.agg #[.int .i64 A, .int .i64 B]] w fun x w' => x = .returned (.int .i64 0) ∧ Below w.heap.size w w') (HP : ∀ w : World, Calls Try.prog 36 #[.agg #[.int .i64 n, .int .i64 d], .agg #[.int .i64 p, .int .i64 q]] w fun x w' => x = .returned (.bool true) ∧ Below w.heap.size w w') (HR : ∀ w : World, Calls Try.prog 39 #[.agg #[.int .i64 r, .int .i64 s]] w fun x w' => x = .returned (.bool true) ∧ Below w.heap.size w w') (HV : ∀ w : World, Calls Try.prog 40 #[.agg #[.int .i64 (Q 0), .int .i64 (Q 1), .int .i64 (Q 2), .int .i64 (Q 3), .int .i64 (Q 4), .int .i64 (Q 5)]] w fun x w' => x = .returned (.int .i64 0) ∧ Below w.heap.size w w') (HA : ∀ w : World, Calls Try.prog 37 #[] w fun x w' => x = .returned (.bool true) ∧ Below w.heap.size w w')
    (H0 : ∀ w : World, Calls Try.prog 18 #[.int .i64 2, .agg #[.int .i64 r, .int .i64 s]] w fun x w' => x = .returned (.tuple #[.agg #[.int .i64 (M 0), .int .i64 (M 1), .int .i64 (M 2), .int .i64 (M 3), .int .i64 (M 4), .int .i64 (M 5), .int .i64 (M 6), .int .i64 (M 7), .int .i64 (M 8), .int .i64 (M 9), .int .i64 (M 10), .int .i64 (M 11), .int .i64 (M 12), .int .i64 (M 13), .int .i64 (M 14), .int .i64 (M 15), .int .i64 (M 16), .int .i64 (M 17)], .int .i64 0]) ∧ Below w.heap.size w w')
    (H1 : ∀ w : World, Calls Try.prog 22 #[.agg #[.int .i64 A, .int .i64 B], .agg #[.int .i64 n, .int .i64 d], .agg #[.int .i64 p, .int .i64 q]] w fun x w' => x = .returned (.tuple #[.agg #[.int .i64 (P 0), .int .i64 (P 1), .int .i64 (P 2), .int .i64 (P 3), .int .i64 (P 4), .int .i64 (P 5)], .int .i64 0]) ∧ Below w.heap.size w w')
    (H2 : ∀ w : World, Calls Try.prog 10 #[.agg #[.int .i64 (M 0), .int .i64 (M 1), .int .i64 (M 2), .int .i64 (M 3), .int .i64 (M 4), .int .i64 (M 5), .int .i64 (M 6), .int .i64 (M 7), .int .i64 (M 8), .int .i64 (M 9), .int .i64 (M 10), .int .i64 (M 11), .int .i64 (M 12), .int .i64 (M 13), .int .i64 (M 14), .int .i64 (M 15), .int .i64 (M 16), .int .i64 (M 17)], .agg #[.int .i64 (P 0), .int .i64 (P 1), .int .i64 (P 2), .int .i64 (P 3), .int .i64 (P 4), .int .i64 (P 5)]] w fun x w' => x = .returned (.tuple #[.agg #[.int .i64 (X 0), .int .i64 (X 1), .int .i64 (X 2), .int .i64 (X 3), .int .i64 (X 4), .int .i64 (X 5)], .int .i64 0]) ∧ Below w.heap.size w w')
    (H3 : ∀ w : World, Calls Try.prog 10 #[.agg #[.int .i64 (M 0), .int .i64 (M 1), .int .i64 (M 2), .int .i64 (M 3), .int .i64 (M 4), .int .i64 (M 5), .int .i64 (M 6), .int .i64 (M 7), .int .i64 (M 8), .int .i64 (M 9), .int .i64 (M 10), .int .i64 (M 11), .int .i64 (M 12), .int .i64 (M 13), .int .i64 (M 14), .int .i64 (M 15), .int .i64 (M 16), .int .i64 (M 17)], .agg #[.int .i64 (Q 0), .int .i64 (Q 1), .int .i64 (Q 2), .int .i64 (Q 3), .int .i64 (Q 4), .int .i64 (Q 5)]] w fun x w' => x = .returned (.tuple #[.agg #[.int .i64 (Y 0), .int .i64 (Y 1), .int .i64 (Y 2), .int .i64 (Y 3), .int .i64 (Y 4), .int .i64 (Y 5)], .int .i64 ei]) ∧ Below w.heap.size w w')
    (H4 : ∀ w : World, Calls Try.prog 24 #[.agg #[.int .i64 A, .int .i64 B], .agg #[.int .i64 (X 0), .int .i64 (X 1), .int .i64 (X 2), .int .i64 (X 3), .int .i64 (X 4), .int .i64 (X 5)]] w fun x w' => x = .returned (.tuple #[.bool bo, .int .i64 ej]) ∧ Below w.heap.size w w')
    (H5 : ∀ w : World, Calls Try.prog 26 #[.agg #[.int .i64 A, .int .i64 B], .agg #[.int .i64 (Q 0), .int .i64 (Q 1), .int .i64 (Q 2), .int .i64 (Q 3), .int .i64 (Q 4), .int .i64 (Q 5)]] w fun x w' => x = .returned (.tuple #[.int .i64 n1, .int .i64 e1]) ∧ Below w.heap.size w w')
    (H7 : ∀ w : World, Calls Try.prog 34 #[.agg #[.int .i64 A, .int .i64 B], .agg #[.int .i64 (P 0), .int .i64 (P 1), .int .i64 (P 2), .int .i64 (P 3), .int .i64 (P 4), .int .i64 (P 5)], .agg #[.int .i64 (Q 0), .int .i64 (Q 1), .int .i64 (Q 2), .int .i64 (Q 3), .int .i64 (Q 4), .int .i64 (Q 5)]] w fun x w' => x = .returned (.tuple #[.int .i64 n3, .int .i64 e3]) ∧ Below w.heap.size w w')
    (w : World) :
    Calls Try.prog 8 #[.agg #[.int .i64 A, .int .i64 B], .agg #[.int .i64 n, .int .i64 d], .agg #[.int .i64 p, .int .i64 q], .agg #[.int .i64 r, .int .i64 s], .agg #[.int .i64 (Q 0), .int .i64 (Q 1), .int .i64 (Q 2), .int .i64 (Q 3), .int .i64 (Q 4), .int .i64 (Q 5)]] w fun x w' => x = .returned (.bool true) ∧ Below w.heap.size w w' := by
  have S0 := Lib.hid HC
  have S1 := Lib.hid HP
  have S2 := Lib.hid HR
  have S3 := Lib.hid HV
  have AL := Lib.hid HA
  have HJ := Lib.hid hJ
  have HB := Lib.hid hB
  have HL := Lib.hid hL
  have K0 := Lib.hid H0
  have K1 := Lib.hid H1
  have K2 := Lib.hid H2
  have K3 := Lib.hid H3
  have K4 := Lib.hid H4
  have K5 := Lib.hid H5
  have K7 := Lib.hid H7
  clear HC HP HR HV HA hJ hB hL H0 H1 H2 H3 H4 H5 H7
  have H1 := Lib.hid h1
  have H2 := Lib.hid h2
  clear h1 h2
  have dAl := dAl; have dSt := dSt
  go_enter Try.func8, Try.ntmps8
  go_upto_region 1 with fail
  refine opq (fun wx => Cs wx (w.heap.size) 2 (fg2 A B) ∧ Cs wx (w.heap.size + 1) 2 (fg2 n d) ∧ Cs wx (w.heap.size + 1 + 1) 2 (fg2 p q) ∧ Cs wx (w.heap.size + 1 + 1 + 1) 2 (fg2 r s) ∧ Cs wx (w.heap.size + 1 + 1 + 1 + 1) 6 (Q) ∧ w.heap.size + 1 + 1 + 1 + 1 < wx.heap.size ∧ Below w.heap.size w wx) ?_ ?_
  · exact ⟨cs_alloc _ (cs_alloc _ (cs_alloc _ (cs_alloc _ (cs_new (by simp) (arg2 A B)) (by simp <;> omega)) (by simp <;> omega)) (by simp <;> omega)) (by simp <;> omega), cs_alloc _ (cs_alloc _ (cs_alloc _ (cs_new (by simp) (arg2 n d)) (by simp <;> omega)) (by simp <;> omega)) (by simp <;> omega), cs_alloc _ (cs_alloc _ (cs_new (by simp) (arg2 p q)) (by simp <;> omega)) (by simp <;> omega), cs_alloc _ (cs_new (by simp) (arg2 r s)) (by simp <;> omega), cs_new (by simp) (arrV Q), by simp, by (repeat (first | with_reducible exact b0 _ | (with_reducible refine bext ?_ _ _) | (with_reducible refine below_drewN ?_ _) | (with_reducible refine Below.drew ?_) | (with_reducible refine bal ?_ _)))⟩
  rintro w0 ⟨cG, cS, cT, cU, cQ, zs, HBa⟩
  have hG : ∀ o, o < 2 → w0.cell? ⟨w.heap.size, o, none⟩ = some (.int .i64 (fg2 A B o)) := cG
  have hS : ∀ o, o < 2 → w0.cell? ⟨w.heap.size + 1, o, none⟩ = some (.int .i64 (fg2 n d o)) := cS
  have hT : ∀ o, o < 2 → w0.cell? ⟨w.heap.size + 1 + 1, o, none⟩ = some (.int .i64 (fg2 p q o)) := cT
  have hU : ∀ o, o < 2 → w0.cell? ⟨w.heap.size + 1 + 1 + 1, o, none⟩ = some (.int .i64 (fg2 r s o)) := cU
  have hQ : ∀ o, o < 6 → w0.cell? ⟨w.heap.size + 1 + 1 + 1 + 1, o, none⟩ = some (.int .i64 (Q o)) := cQ
  have i0 : fg2 A B 0 = A := rfl
  have i1 : fg2 A B 1 = B := rfl
  have i2 : fg2 n d 0 = n := rfl
  have i3 : fg2 n d 1 = d := rfl
  have i4 : fg2 p q 0 = p := rfl
  have i5 : fg2 p q 1 = q := rfl
  have i6 : fg2 r s 0 = r := rfl
  have i7 : fg2 r s 1 = s := rfl
  go_wp2_with fail
  with_reducible refine (S0.out _).mono ?_
  rintro e v0 ⟨rfl, hb⟩
  clear hG hS hT hU hQ
  replace cG := cs_below cG hb (by omega)
  replace cS := cs_below cS hb (by omega)
  replace cT := cs_below cT hb (by omega)
  replace cU := cs_below cU hb (by omega)
  replace cQ := cs_below cQ hb (by omega)
  replace HBa := HBa.trans (hb.mono (by omega))
  replace zs := Nat.lt_of_lt_of_le zs hb.size
  clear hb
  have hG : ∀ o, o < 2 → v0.cell? ⟨w.heap.size, o, none⟩ = some (.int .i64 (fg2 A B o)) := cG
  have hS : ∀ o, o < 2 → v0.cell? ⟨w.heap.size + 1, o, none⟩ = some (.int .i64 (fg2 n d o)) := cS
  have hT : ∀ o, o < 2 → v0.cell? ⟨w.heap.size + 1 + 1, o, none⟩ = some (.int .i64 (fg2 p q o)) := cT
  have hU : ∀ o, o < 2 → v0.cell? ⟨w.heap.size + 1 + 1 + 1, o, none⟩ = some (.int .i64 (fg2 r s o)) := cU
  have hQ : ∀ o, o < 6 → v0.cell? ⟨w.heap.size + 1 + 1 + 1 + 1, o, none⟩ = some (.int .i64 (Q o)) := cQ
  go_wp2_with fail
  with_reducible refine (S1.out _).mono ?_
  rintro e v1 ⟨rfl, hb⟩
  clear hG hS hT hU hQ
  replace cG := cs_below cG hb (by omega)
  replace cS := cs_below cS hb (by omega)
  replace cT := cs_below cT hb (by omega)
  replace cU := cs_below cU hb (by omega)
  replace cQ := cs_below cQ hb (by omega)
  replace HBa := HBa.trans (hb.mono (by omega))
  replace zs := Nat.lt_of_lt_of_le zs hb.size
  clear hb
  have hG : ∀ o, o < 2 → v1.cell? ⟨w.heap.size, o, none⟩ = some (.int .i64 (fg2 A B o)) := cG
  have hS : ∀ o, o < 2 → v1.cell? ⟨w.heap.size + 1, o, none⟩ = some (.int .i64 (fg2 n d o)) := cS
  have hT : ∀ o, o < 2 → v1.cell? ⟨w.heap.size + 1 + 1, o, none⟩ = some (.int .i64 (fg2 p q o)) := cT
  have hU : ∀ o, o < 2 → v1.cell? ⟨w.heap.size + 1 + 1 + 1, o, none⟩ = some (.int .i64 (fg2 r s o)) := cU
  have hQ : ∀ o, o < 6 → v1.cell? ⟨w.heap.size + 1 + 1 + 1 + 1, o, none⟩ = some (.int .i64 (Q o)) := cQ
  go_wp2_with fail
  with_reducible refine (S2.out _).mono ?_
  rintro e v2 ⟨rfl, hb⟩
  clear hG hS hT hU hQ
  replace cG := cs_below cG hb (by omega)
  replace cS := cs_below cS hb (by omega)
  replace cT := cs_below cT hb (by omega)
  replace cU := cs_below cU hb (by omega)
  replace cQ := cs_below cQ hb (by omega)
  replace HBa := HBa.trans (hb.mono (by omega))
  replace zs := Nat.lt_of_lt_of_le zs hb.size
  clear hb
  have hG : ∀ o, o < 2 → v2.cell? ⟨w.heap.size, o, none⟩ = some (.int .i64 (fg2 A B o)) := cG
  have hS : ∀ o, o < 2 → v2.cell? ⟨w.heap.size + 1, o, none⟩ = some (.int .i64 (fg2 n d o)) := cS
  have hT : ∀ o, o < 2 → v2.cell? ⟨w.heap.size + 1 + 1, o, none⟩ = some (.int .i64 (fg2 p q o)) := cT
  have hU : ∀ o, o < 2 → v2.cell? ⟨w.heap.size + 1 + 1 + 1, o, none⟩ = some (.int .i64 (fg2 r s o)) := cU
  have hQ : ∀ o, o < 6 → v2.cell? ⟨w.heap.size + 1 + 1 + 1 + 1, o, none⟩ = some (.int .i64 (Q o)) := cQ
  go_wp2_with fail
  with_reducible refine (S3.out _).mono ?_
  rintro e v3 ⟨rfl, hb⟩
  clear hG hS hT hU hQ
  replace cG := cs_below cG hb (by omega)
  replace cS := cs_below cS hb (by omega)
  replace cT := cs_below cT hb (by omega)
  replace cU := cs_below cU hb (by omega)
  replace cQ := cs_below cQ hb (by omega)
  replace HBa := HBa.trans (hb.mono (by omega))
  replace zs := Nat.lt_of_lt_of_le zs hb.size
  clear hb
  have hG : ∀ o, o < 2 → v3.cell? ⟨w.heap.size, o, none⟩ = some (.int .i64 (fg2 A B o)) := cG
  have hS : ∀ o, o < 2 → v3.cell? ⟨w.heap.size + 1, o, none⟩ = some (.int .i64 (fg2 n d o)) := cS
  have hT : ∀ o, o < 2 → v3.cell? ⟨w.heap.size + 1 + 1, o, none⟩ = some (.int .i64 (fg2 p q o)) := cT
  have hU : ∀ o, o < 2 → v3.cell? ⟨w.heap.size + 1 + 1 + 1, o, none⟩ = some (.int .i64 (fg2 r s o)) := cU
  have hQ : ∀ o, o < 6 → v3.cell? ⟨w.heap.size + 1 + 1 + 1 + 1, o, none⟩ = some (.int .i64 (Q o)) := cQ
  go_upto_region 3 with fail
  clear S0 S1 S2 S3 hG hS hT hU hQ
  go_step
  have hV : ∀ o, o < 2 → v3.cell? ⟨w.heap.size + 1 + 1 + 1, o, none⟩ = some (.int .i64 ((fg2 r s) o)) := cU
  have e0 : (fg2 r s) 0 = r := rfl
  have e1 : (fg2 r s) 1 = s := rfl
  refine wpList_plain rfl (fun K hK => ?_)
  go_big_op
  refine hK _ _ ?_
  clear hK K
  clear hV e0 e1
  have AC := K0.out
  refine wpList_plain rfl (fun K hK => ?_)
  go_big_op
  with_reducible refine (AC _).mono ?_
  rintro e v21 ⟨rfl, hb⟩
  simp only []
  refine hK _ _ ?_
  clear hK K
  replace cG := cs_below cG hb (by omega)
  replace cS := cs_below cS hb (by omega)
  replace cT := cs_below cT hb (by omega)
  replace cU := cs_below cU hb (by omega)
  replace cQ := cs_below cQ hb (by omega)
  replace HBa := HBa.trans (hb.mono (by first | omega | exact HBa.size))
  replace zs := Nat.lt_of_lt_of_le zs hb.size
  clear hb
  clear AC
  refine wpList_plain rfl (fun K hK => ?_)
  go_big_op
  refine hK _ _ ?_
  clear hK K
  refine wpList_plain rfl (fun K hK => ?_)
  go_big_op
  refine hK _ _ ?_
  clear hK K
  refine wpList_plain rfl (fun K hK => ?_)
  go_big_op
  refine hK _ _ ?_
  clear hK K
  refine wpList_plain rfl (fun K hK => ?_)
  go_big_op
  refine hK _ _ ?_
  clear hK K
  refine store18 (.tmp 11) (.tmp 52) v21.heap.size M (fun _ => 0) (cs_new rfl arr0) (fs_new rfl) rfl rfl rfl rfl ?_
  intro u23 cq22 fR sX bX
  have hb := bX v21.heap.size v21 (Nat.le_refl _) (bal (b0 _) _)
  have zq22 : v21.heap.size < u23.heap.size := by rw [sX]; simp
  have y24 := zs
  replace cG := cs_below cG hb (by omega)
  replace cS := cs_below cS hb (by omega)
  replace cT := cs_below cT hb (by omega)
  replace cU := cs_below cU hb (by omega)
  replace cQ := cs_below cQ hb (by omega)
  replace HBa := HBa.trans (hb.mono (by first | omega | exact HBa.size))
  replace zs := Nat.lt_of_lt_of_le zs hb.size
  replace zs := zq22
  clear zq22 hb bX sX fR
  generalize hq : v21.heap.size = q22 at *
  clear hq
  go_upto_region 4 with fail
  go_step
  have hV : ∀ o, o < 2 → u23.cell? ⟨w.heap.size, o, none⟩ = some (.int .i64 ((fg2 A B) o)) := cG
  have e0 : (fg2 A B) 0 = A := rfl
  have e1 : (fg2 A B) 1 = B := rfl
  refine wpList_plain rfl (fun K hK => ?_)
  go_big_op
  refine hK _ _ ?_
  clear hK K
  clear hV e0 e1
  have hV : ∀ o, o < 2 → u23.cell? ⟨w.heap.size + 1, o, none⟩ = some (.int .i64 ((fg2 n d) o)) := cS
  have e0 : (fg2 n d) 0 = n := rfl
  have e1 : (fg2 n d) 1 = d := rfl
  refine wpList_plain rfl (fun K hK => ?_)
  go_big_op
  refine hK _ _ ?_
  clear hK K
  clear hV e0 e1
  have hV : ∀ o, o < 2 → u23.cell? ⟨w.heap.size + 1 + 1, o, none⟩ = some (.int .i64 ((fg2 p q) o)) := cT
  have e0 : (fg2 p q) 0 = p := rfl
  have e1 : (fg2 p q) 1 = q := rfl
  refine wpList_plain rfl (fun K hK => ?_)
  go_big_op
  refine hK _ _ ?_
  clear hK K
  clear hV e0 e1
  have AC := K1.out
  refine wpList_plain rfl (fun K hK => ?_)
  go_big_op
  with_reducible refine (AC _).mono ?_
  rintro e v25 ⟨rfl, hb⟩
  simp only []
  refine hK _ _ ?_
  clear hK K
  replace cG := cs_below cG hb (by omega)
  replace cS := cs_below cS hb (by omega)
  replace cT := cs_below cT hb (by omega)
  replace cU := cs_below cU hb (by omega)
  replace cQ := cs_below cQ hb (by omega)
  replace cq22 := cs_below cq22 hb (by omega)
  replace HBa := HBa.trans (hb.mono (by first | omega | exact HBa.size))
  replace zs := Nat.lt_of_lt_of_le zs hb.size
  clear hb
  clear AC
  go_upto_region 5 with fail
  refine opq (fun wx => Cs wx (w.heap.size) 2 (fg2 A B) ∧ Cs wx (w.heap.size + 1) 2 (fg2 n d) ∧ Cs wx (w.heap.size + 1 + 1) 2 (fg2 p q) ∧ Cs wx (w.heap.size + 1 + 1 + 1) 2 (fg2 r s) ∧ Cs wx (w.heap.size + 1 + 1 + 1 + 1) 6 Q ∧ Cs wx (q22) 18 M ∧ Cs wx v25.heap.size 6 P ∧ v25.heap.size < wx.heap.size ∧ Below w.heap.size w wx) ?_ ?_
  · have zb := HBa.size
    exact ⟨by (repeat (first | with_reducible exact cG | with_reducible refine cs_drewN ?_ | with_reducible refine cs_drew ?_ | with_reducible refine cs_ext ?_ (by first | omega | (simp [ext_size, World.setCell] <;> omega)) _ _ | with_reducible refine cs_alloc _ ?_ (by first | omega | (simp [ext_size, World.setCell] <;> omega)) | with_reducible refine cs_up ?_ (by decide) | with_reducible refine cs_set _ ?_ (by first | omega | (simp <;> omega)))), by (repeat (first | with_reducible exact cS | with_reducible refine cs_drewN ?_ | with_reducible refine cs_drew ?_ | with_reducible refine cs_ext ?_ (by first | omega | (simp [ext_size, World.setCell] <;> omega)) _ _ | with_reducible refine cs_alloc _ ?_ (by first | omega | (simp [ext_size, World.setCell] <;> omega)) | with_reducible refine cs_up ?_ (by decide) | with_reducible refine cs_set _ ?_ (by first | omega | (simp <;> omega)))), by (repeat (first | with_reducible exact cT | with_reducible refine cs_drewN ?_ | with_reducible refine cs_drew ?_ | with_reducible refine cs_ext ?_ (by first | omega | (simp [ext_size, World.setCell] <;> omega)) _ _ | with_reducible refine cs_alloc _ ?_ (by first | omega | (simp [ext_size, World.setCell] <;> omega)) | with_reducible refine cs_up ?_ (by decide) | with_reducible refine cs_set _ ?_ (by first | omega | (simp <;> omega)))), by (repeat (first | with_reducible exact cU | with_reducible refine cs_drewN ?_ | with_reducible refine cs_drew ?_ | with_reducible refine cs_ext ?_ (by first | omega | (simp [ext_size, World.setCell] <;> omega)) _ _ | with_reducible refine cs_alloc _ ?_ (by first | omega | (simp [ext_size, World.setCell] <;> omega)) | with_reducible refine cs_up ?_ (by decide) | with_reducible refine cs_set _ ?_ (by first | omega | (simp <;> omega)))), by (repeat (first | with_reducible exact cQ | with_reducible refine cs_drewN ?_ | with_reducible refine cs_drew ?_ | with_reducible refine cs_ext ?_ (by first | omega | (simp [ext_size, World.setCell] <;> omega)) _ _ | with_reducible refine cs_alloc _ ?_ (by first | omega | (simp [ext_size, World.setCell] <;> omega)) | with_reducible refine cs_up ?_ (by decide) | with_reducible refine cs_set _ ?_ (by first | omega | (simp <;> omega)))), by (repeat (first | with_reducible exact cq22 | with_reducible refine cs_drewN ?_ | with_reducible refine cs_drew ?_ | with_reducible refine cs_ext ?_ (by first | omega | (simp [ext_size, World.setCell] <;> omega)) _ _ | with_reducible refine cs_alloc _ ?_ (by first | omega | (simp [ext_size, World.setCell] <;> omega)) | with_reducible refine cs_up ?_ (by decide) | with_reducible refine cs_set _ ?_ (by first | omega | (simp <;> omega)))), by (intro o ho; rcases (show o = 0 ∨ o = 1 ∨ o = 2 ∨ o = 3 ∨ o = 4 ∨ o = 5 by omega) with rfl | rfl | rfl | rfl | rfl | rfl <;> simp [fg2, fg6, go_sem]), by simp [World.setCell], by (repeat (first | with_reducible exact HBa | (with_reducible refine bextm ?_ (by first | omega | (simp [ext_size, World.setCell] <;> omega)) _ _) | (with_reducible refine below_drewN ?_ _) | (with_reducible refine Below.drew ?_) | (with_reducible refine Below.alloc ?_ (by first | omega | (simp [ext_size, World.setCell] <;> omega)) _) | (with_reducible refine Below.setCell ?_ (by first | omega | (simp [ext_size, World.setCell] <;> omega)) _)))⟩
  have y28 := zs
  clear cG cS cT cU cQ cq22 HBa zs
  generalize hq : v25.heap.size = q26 at *
  clear hq
  rintro u27 ⟨cG, cS, cT, cU, cQ, cq22, cq26, zs, HBa⟩
  go_step
  refine load18 (.tmp 11) _ M cq22 rfl rfl rfl ?_
  simp only [Act.put, List.setIfInBounds_toArray, List.set_cons_zero, List.set_cons_succ]
  have hV : ∀ o, o < 6 → u27.cell? ⟨q26, o, none⟩ = some (.int .i64 (P o)) := cq26
  refine wpList_plain rfl (fun K hK => ?_)
  go_big_op
  refine hK _ _ ?_
  clear hK K
  clear hV
  have AC := K2.out
  refine wpList_plain rfl (fun K hK => ?_)
  go_big_op
  with_reducible refine (AC _).mono ?_
  rintro e v29 ⟨rfl, hb⟩
  simp only []
  refine hK _ _ ?_
  clear hK K
  replace cG := cs_below cG hb (by omega)
  replace cS := cs_below cS hb (by omega)
  replace cT := cs_below cT hb (by omega)
  replace cU := cs_below cU hb (by omega)
  replace cQ := cs_below cQ hb (by omega)
  replace cq22 := cs_below cq22 hb (by omega)
  replace cq26 := cs_below cq26 hb (by omega)
  replace HBa := HBa.trans (hb.mono (by first | omega | exact HBa.size))
  replace zs := Nat.lt_of_lt_of_le zs hb.size
  clear hb
  clear AC
  go_upto_region 6 with fail
  refine opq (fun wx => Cs wx (w.heap.size) 2 (fg2 A B) ∧ Cs wx (w.heap.size + 1) 2 (fg2 n d) ∧ Cs wx (w.heap.size + 1 + 1) 2 (fg2 p q) ∧ Cs wx (w.heap.size + 1 + 1 + 1) 2 (fg2 r s) ∧ Cs wx (w.heap.size + 1 + 1 + 1 + 1) 6 Q ∧ Cs wx (q22) 18 M ∧ Cs wx (q26) 6 P ∧ Cs wx v29.heap.size 6 X ∧ v29.heap.size < wx.heap.size ∧ Below w.heap.size w wx) ?_ ?_
  · have zb := HBa.size
    exact ⟨by (repeat (first | with_reducible exact cG | with_reducible refine cs_drewN ?_ | with_reducible refine cs_drew ?_ | with_reducible refine cs_ext ?_ (by first | omega | (simp [ext_size, World.setCell] <;> omega)) _ _ | with_reducible refine cs_alloc _ ?_ (by first | omega | (simp [ext_size, World.setCell] <;> omega)) | with_reducible refine cs_up ?_ (by decide) | with_reducible refine cs_set _ ?_ (by first | omega | (simp <;> omega)))), by (repeat (first | with_reducible exact cS | with_reducible refine cs_drewN ?_ | with_reducible refine cs_drew ?_ | with_reducible refine cs_ext ?_ (by first | omega | (simp [ext_size, World.setCell] <;> omega)) _ _ | with_reducible refine cs_alloc _ ?_ (by first | omega | (simp [ext_size, World.setCell] <;> omega)) | with_reducible refine cs_up ?_ (by decide) | with_reducible refine cs_set _ ?_ (by first | omega | (simp <;> omega)))), by (repeat (first | with_reducible exact cT | with_reducible refine cs_drewN ?_ | with_reducible refine cs_drew ?_ | with_reducible refine cs_ext ?_ (by first | omega | (simp [ext_size, World.setCell] <;> omega)) _ _ | with_reducible refine cs_alloc _ ?_ (by first | omega | (simp [ext_size, World.setCell] <;> omega)) | with_reducible refine cs_up ?_ (by decide) | with_reducible refine cs_set _ ?_ (by first | omega | (simp <;> omega)))), by (repeat (first | with_reducible exact cU | with_reducible refine cs_drewN ?_ | with_reducible refine cs_drew ?_ | with_reducible refine cs_ext ?_ (by first | omega | (simp [ext_size, World.setCell] <;> omega)) _ _ | with_reducible refine cs_alloc _ ?_ (by first | omega | (simp [ext_size, World.setCell] <;> omega)) | with_reducible refine cs_up ?_ (by decide) | with_reducible refine cs_set _ ?_ (by first | omega | (simp <;> omega)))), by (repeat (first | with_reducible exact cQ | with_reducible refine cs_drewN ?_ | with_reducible refine cs_drew ?_ | with_reducible refine cs_ext ?_ (by first | omega | (simp [ext_size, World.setCell] <;> omega)) _ _ | with_reducible refine cs_alloc _ ?_ (by first | omega | (simp [ext_size, World.setCell] <;> omega)) | with_reducible refine cs_up ?_ (by decide) | with_reducible refine cs_set _ ?_ (by first | omega | (simp <;> omega)))), by (repeat (first | with_reducible exact cq22 | with_reducible refine cs_drewN ?_ | with_reducible refine cs_drew ?_ | with_reducible refine cs_ext ?_ (by first | omega | (simp [ext_size, World.setCell] <;> omega)) _ _ | with_reducible refine cs_alloc _ ?_ (by first | omega | (simp [ext_size, World.setCell] <;> omega)) | with_reducible refine cs_up ?_ (by decide) | with_reducible refine cs_set _ ?_ (by first | omega | (simp <;> omega)))), by (repeat (first | with_reducible exact cq26 | with_reducible refine cs_drewN ?_ | with_reducible refine cs_drew ?_ | with_reducible refine cs_ext ?_ (by first | omega | (simp [ext_size, World.setCell] <;> omega)) _ _ | with_reducible refine cs_alloc _ ?_ (by first | omega | (simp [ext_size, World.setCell] <;> omega)) | with_reducible refine cs_up ?_ (by decide) | with_reducible refine cs_set _ ?_ (by first | omega | (simp <;> omega)))), by (intro o ho; rcases (show o = 0 ∨ o = 1 ∨ o = 2 ∨ o = 3 ∨ o = 4 ∨ o = 5 by omega) with rfl | rfl | rfl | rfl | rfl | rfl <;> simp [fg2, fg6, go_sem]), by simp [World.setCell], by (repeat (first | with_reducible exact HBa | (with_reducible refine bextm ?_ (by first | omega | (simp [ext_size, World.setCell] <;> omega)) _ _) | (with_reducible refine below_drewN ?_ _) | (with_reducible refine Below.drew ?_) | (with_reducible refine Below.alloc ?_ (by first | omega | (simp [ext_size, World.setCell] <;> omega)) _) | (with_reducible refine Below.setCell ?_ (by first | omega | (simp [ext_size, World.setCell] <;> omega)) _)))⟩
  have y32 := zs
  clear cG cS cT cU cQ cq22 cq26 HBa zs
  generalize hq : v29.heap.size = q30 at *
  clear hq
  rintro u31 ⟨cG, cS, cT, cU, cQ, cq22, cq26, cq30, zs, HBa⟩
  go_step
  refine load18 (.tmp 11) _ M cq22 rfl rfl rfl ?_
  simp only [Act.put, List.setIfInBounds_toArray, List.set_cons_zero, List.set_cons_succ]
  have hV : ∀ o, o < 6 → u31.cell? ⟨w.heap.size + 1 + 1 + 1 + 1, o, none⟩ = some (.int .i64 (Q o)) := cQ
  refine wpList_plain rfl (fun K hK => ?_)
  go_big_op
  refine hK _ _ ?_
  clear hK K
  clear hV
  have AC := K3.out
  refine wpList_plain rfl (fun K hK => ?_)
  go_big_op
  with_reducible refine (AC _).mono ?_
  rintro e v33 ⟨rfl, hb⟩
  simp only []
  refine hK _ _ ?_
  clear hK K
  replace cG := cs_below cG hb (by omega)
  replace cS := cs_below cS hb (by omega)
  replace cT := cs_below cT hb (by omega)
  replace cU := cs_below cU hb (by omega)
  replace cQ := cs_below cQ hb (by omega)
  replace cq22 := cs_below cq22 hb (by omega)
  replace cq26 := cs_below cq26 hb (by omega)
  replace cq30 := cs_below cq30 hb (by omega)
  replace HBa := HBa.trans (hb.mono (by first | omega | exact HBa.size))
  replace zs := Nat.lt_of_lt_of_le zs hb.size
  clear hb
  clear AC
  go_upto_region 7 with fail
  refine opq (fun wx => Cs wx (w.heap.size) 2 (fg2 A B) ∧ Cs wx (w.heap.size + 1) 2 (fg2 n d) ∧ Cs wx (w.heap.size + 1 + 1) 2 (fg2 p q) ∧ Cs wx (w.heap.size + 1 + 1 + 1) 2 (fg2 r s) ∧ Cs wx (w.heap.size + 1 + 1 + 1 + 1) 6 Q ∧ Cs wx (q22) 18 M ∧ Cs wx (q26) 6 P ∧ Cs wx (q30) 6 X ∧ Cs wx v33.heap.size 6 Y ∧ v33.heap.size < wx.heap.size ∧ Below w.heap.size w wx) ?_ ?_
  · have zb := HBa.size
    exact ⟨by (repeat (first | with_reducible exact cG | with_reducible refine cs_drewN ?_ | with_reducible refine cs_drew ?_ | with_reducible refine cs_ext ?_ (by first | omega | (simp [ext_size, World.setCell] <;> omega)) _ _ | with_reducible refine cs_alloc _ ?_ (by first | omega | (simp [ext_size, World.setCell] <;> omega)) | with_reducible refine cs_up ?_ (by decide) | with_reducible refine cs_set _ ?_ (by first | omega | (simp <;> omega)))), by (repeat (first | with_reducible exact cS | with_reducible refine cs_drewN ?_ | with_reducible refine cs_drew ?_ | with_reducible refine cs_ext ?_ (by first | omega | (simp [ext_size, World.setCell] <;> omega)) _ _ | with_reducible refine cs_alloc _ ?_ (by first | omega | (simp [ext_size, World.setCell] <;> omega)) | with_reducible refine cs_up ?_ (by decide) | with_reducible refine cs_set _ ?_ (by first | omega | (simp <;> omega)))), by (repeat (first | with_reducible exact cT | with_reducible refine cs_drewN ?_ | with_reducible refine cs_drew ?_ | with_reducible refine cs_ext ?_ (by first | omega | (simp [ext_size, World.setCell] <;> omega)) _ _ | with_reducible refine cs_alloc _ ?_ (by first | omega | (simp [ext_size, World.setCell] <;> omega)) | with_reducible refine cs_up ?_ (by decide) | with_reducible refine cs_set _ ?_ (by first | omega | (simp <;> omega)))), by (repeat (first | with_reducible exact cU | with_reducible refine cs_drewN ?_ | with_reducible refine cs_drew ?_ | with_reducible refine cs_ext ?_ (by first | omega | (simp [ext_size, World.setCell] <;> omega)) _ _ | with_reducible refine cs_alloc _ ?_ (by first | omega | (simp [ext_size, World.setCell] <;> omega)) | with_reducible refine cs_up ?_ (by decide) | with_reducible refine cs_set _ ?_ (by first | omega | (simp <;> omega)))), by (repeat (first | with_reducible exact cQ | with_reducible refine cs_drewN ?_ | with_reducible refine cs_drew ?_ | with_reducible refine cs_ext ?_ (by first | omega | (simp [ext_size, World.setCell] <;> omega)) _ _ | with_reducible refine cs_alloc _ ?_ (by first | omega | (simp [ext_size, World.setCell] <;> omega)) | with_reducible refine cs_up ?_ (by decide) | with_reducible refine cs_set _ ?_ (by first | omega | (simp <;> omega)))), by (repeat (first | with_reducible exact cq22 | with_reducible refine cs_drewN ?_ | with_reducible refine cs_drew ?_ | with_reducible refine cs_ext ?_ (by first | omega | (simp [ext_size, World.setCell] <;> omega)) _ _ | with_reducible refine cs_alloc _ ?_ (by first | omega | (simp [ext_size, World.setCell] <;> omega)) | with_reducible refine cs_up ?_ (by decide) | with_reducible refine cs_set _ ?_ (by first | omega | (simp <;> omega)))), by (repeat (first | with_reducible exact cq26 | with_reducible refine cs_drewN ?_ | with_reducible refine cs_drew ?_ | with_reducible refine cs_ext ?_ (by first | omega | (simp [ext_size, World.setCell] <;> omega)) _ _ | with_reducible refine cs_alloc _ ?_ (by first | omega | (simp [ext_size, World.setCell] <;> omega)) | with_reducible refine cs_up ?_ (by decide) | with_reducible refine cs_set _ ?_ (by first | omega | (simp <;> omega)))), by (repeat (first | with_reducible exact cq30 | with_reducible refine cs_drewN ?_ | with_reducible refine cs_drew ?_ | with_reducible refine cs_ext ?_ (by first | omega | (simp [ext_size, World.setCell] <;> omega)) _ _ | with_reducible refine cs_alloc _ ?_ (by first | omega | (simp [ext_size, World.setCell] <;> omega)) | with_reducible refine cs_up ?_ (by decide) | with_reducible refine cs_set _ ?_ (by first | omega | (simp <;> omega)))), by (intro o ho; rcases (show o = 0 ∨ o = 1 ∨ o = 2 ∨ o = 3 ∨ o = 4 ∨ o = 5 by omega) with rfl | rfl | rfl | rfl | rfl | rfl <;> simp [fg2, fg6, go_sem]), by simp [World.setCell], by (repeat (first | with_reducible exact HBa | (with_reducible refine bextm ?_ (by first | omega | (simp [ext_size, World.setCell] <;> omega)) _ _) | (with_reducible refine below_drewN ?_ _) | (with_reducible refine Below.drew ?_) | (with_reducible refine Below.alloc ?_ (by first | omega | (simp [ext_size, World.setCell] <;> omega)) _) | (with_reducible refine Below.setCell ?_ (by first | omega | (simp [ext_size, World.setCell] <;> omega)) _)))⟩
  have y36 := zs
  clear cG cS cT cU cQ cq22 cq26 cq30 HBa zs
  generalize hq : v33.heap.size = q34 at *
  clear hq
  rintro u35 ⟨cG, cS, cT, cU, cQ, cq22, cq26, cq30, cq34, zs, HBa⟩
  go_upto_region 9 with fail
  go_step
  have hV : ∀ o, o < 2 → u35.cell? ⟨w.heap.size, o, none⟩ = some (.int .i64 ((fg2 A B) o)) := cG
  have e0 : (fg2 A B) 0 = A := rfl
  have e1 : (fg2 A B) 1 = B := rfl
  refine wpList_plain rfl (fun K hK => ?_)
  go_big_op
  refine hK _ _ ?_
  clear hK K
  clear hV e0 e1
  have hV : ∀ o, o < 6 → u35.cell? ⟨q30, o, none⟩ = some (.int .i64 (X o)) := cq30
  refine wpList_plain rfl (fun K hK => ?_)
  go_big_op
  refine hK _ _ ?_
  clear hK K
  clear hV
  have AC := K4.out
  refine wpList_plain rfl (fun K hK => ?_)
  go_big_op
  with_reducible refine (AC _).mono ?_
  rintro e v37 ⟨rfl, hb⟩
  simp only []
  refine hK _ _ ?_
  clear hK K
  replace cG := cs_below cG hb (by omega)
  replace cS := cs_below cS hb (by omega)
  replace cT := cs_below cT hb (by omega)
  replace cU := cs_below cU hb (by omega)
  replace cQ := cs_below cQ hb (by omega)
  replace cq22 := cs_below cq22 hb (by omega)
  replace cq26 := cs_below cq26 hb (by omega)
  replace cq30 := cs_below cq30 hb (by omega)
  replace cq34 := cs_below cq34 hb (by omega)
  replace HBa := HBa.trans (hb.mono (by first | omega | exact HBa.size))
  replace zs := Nat.lt_of_lt_of_le zs hb.size
  clear hb
  clear AC
  go_upto_region 10 with fail
  rcases HJ.out with rfl | rfl
  · have hbo := HB.out rfl
    subst hbo
    by_cases k0 : ei = 0
    · subst k0
      clear HJ HB
      obtain ⟨L6, L8⟩ := HL.out rfl
      have K6 := Lib.hid L6
      have K8 := Lib.hid L8
      clear L6 L8 HL
      go_upto_region 14 with fail
      go_step
      have hV : ∀ o, o < 2 → v37.cell? ⟨w.heap.size, o, none⟩ = some (.int .i64 ((fg2 A B) o)) := cG
      have e0 : (fg2 A B) 0 = A := rfl
      have e1 : (fg2 A B) 1 = B := rfl
      refine wpList_plain rfl (fun K hK => ?_)
      go_big_op
      refine hK _ _ ?_
      clear hK K
      clear hV e0 e1
      have hV : ∀ o, o < 6 → v37.cell? ⟨w.heap.size + 1 + 1 + 1 + 1, o, none⟩ = some (.int .i64 (Q o)) := cQ
      refine wpList_plain rfl (fun K hK => ?_)
      go_big_op
      refine hK _ _ ?_
      clear hK K
      clear hV
      have AC := K5.out
      refine wpList_plain rfl (fun K hK => ?_)
      go_big_op
      with_reducible refine (AC _).mono ?_
      rintro e v88 ⟨rfl, hb⟩
      simp only []
      refine hK _ _ ?_
      clear hK K
      replace cG := cs_below cG hb (by omega)
      replace cS := cs_below cS hb (by omega)
      replace cT := cs_below cT hb (by omega)
      replace cU := cs_below cU hb (by omega)
      replace cQ := cs_below cQ hb (by omega)
      replace cq22 := cs_below cq22 hb (by omega)
      replace cq26 := cs_below cq26 hb (by omega)
      replace cq30 := cs_below cq30 hb (by omega)
      replace cq34 := cs_below cq34 hb (by omega)
      replace HBa := HBa.trans (hb.mono (by first | omega | exact HBa.size))
      replace zs := Nat.lt_of_lt_of_le zs hb.size
      clear hb
      clear AC
      go_upto_region 15 with fail
      go_step
      have hV : ∀ o, o < 2 → v88.cell? ⟨w.heap.size, o, none⟩ = some (.int .i64 ((fg2 A B) o)) := cG
      have e0 : (fg2 A B) 0 = A := rfl
      have e1 : (fg2 A B) 1 = B := rfl
      refine wpList_plain rfl (fun K hK => ?_)
      go_big_op
      refine hK _ _ ?_
      clear hK K
      clear hV e0 e1
      have hV : ∀ o, o < 6 → v88.cell? ⟨q34, o, none⟩ = some (.int .i64 (Y o)) := cq34
      refine wpList_plain rfl (fun K hK => ?_)
      go_big_op
      refine hK _ _ ?_
      clear hK K
      clear hV
      have AC := K6.out
      refine wpList_plain rfl (fun K hK => ?_)
      go_big_op
      with_reducible refine (AC _).mono ?_
      rintro e v89 ⟨rfl, hb⟩
      simp only []
      refine hK _ _ ?_
      clear hK K
      replace cG := cs_below cG hb (by omega)
      replace cS := cs_below cS hb (by omega)
      replace cT := cs_below cT hb (by omega)
      replace cU := cs_below cU hb (by omega)
      replace cQ := cs_below cQ hb (by omega)
      replace cq22 := cs_below cq22 hb (by omega)
      replace cq26 := cs_below cq26 hb (by omega)
      replace cq30 := cs_below cq30 hb (by omega)
      replace cq34 := cs_below cq34 hb (by omega)
      replace HBa := HBa.trans (hb.mono (by first | omega | exact HBa.size))
      replace zs := Nat.lt_of_lt_of_le zs hb.size
      clear hb
      clear AC
      go_upto_region 16 with fail
      go_step
      have hV : ∀ o, o < 2 → v89.cell? ⟨w.heap.size, o, none⟩ = some (.int .i64 ((fg2 A B) o)) := cG
      have e0 : (fg2 A B) 0 = A := rfl
      have e1 : (fg2 A B) 1 = B := rfl
      refine wpList_plain rfl (fun K hK => ?_)
      go_big_op
      refine hK _ _ ?_
      clear hK K
      clear hV e0 e1
      have hV : ∀ o, o < 6 → v89.cell? ⟨q26, o, none⟩ = some (.int .i64 (P o)) := cq26
      refine wpList_plain rfl (fun K hK => ?_)
      go_big_op
      refine hK _ _ ?_
      clear hK K
      clear hV
      have hV : ∀ o, o < 6 → v89.cell? ⟨w.heap.size + 1 + 1 + 1 + 1, o, none⟩ = some (.int .i64 (Q o)) := cQ
      refine wpList_plain rfl (fun K hK => ?_)
      go_big_op
      refine hK _ _ ?_
      clear hK K
      clear hV
      have AC := K7.out
      refine wpList_plain rfl (fun K hK => ?_)
      go_big_op
      with_reducible refine (AC _).mono ?_
      rintro e v90 ⟨rfl, hb⟩
      simp only []
      refine hK _ _ ?_
      clear hK K
      replace cG := cs_below cG hb (by omega)
      replace cS := cs_below cS hb (by omega)
      replace cT := cs_below cT hb (by omega)
      replace cU := cs_below cU hb (by omega)
      replace cQ := cs_below cQ hb (by omega)
      replace cq22 := cs_below cq22 hb (by omega)
      replace cq26 := cs_below cq26 hb (by omega)
      replace cq30 := cs_below cq30 hb (by omega)
      replace cq34 := cs_below cq34 hb (by omega)
      replace HBa := HBa.trans (hb.mono (by first | omega | exact HBa.size))
      replace zs := Nat.lt_of_lt_of_le zs hb.size
      clear hb
      clear AC
      go_upto_region 17 with fail
      go_step
      have hV : ∀ o, o < 2 → v90.cell? ⟨w.heap.size, o, none⟩ = some (.int .i64 ((fg2 A B) o)) := cG
      have e0 : (fg2 A B) 0 = A := rfl
      have e1 : (fg2 A B) 1 = B := rfl
      refine wpList_plain rfl (fun K hK => ?_)
      go_big_op
      refine hK _ _ ?_
      clear hK K
      clear hV e0 e1
      have hV : ∀ o, o < 6 → v90.cell? ⟨q30, o, none⟩ = some (.int .i64 (X o)) := cq30
      refine wpList_plain rfl (fun K hK => ?_)
      go_big_op
      refine hK _ _ ?_
      clear hK K
      clear hV
      have hV : ∀ o, o < 6 → v90.cell? ⟨q34, o, none⟩ = some (.int .i64 (Y o)) := cq34
      refine wpList_plain rfl (fun K hK => ?_)
      go_big_op
      refine hK _ _ ?_
      clear hK K
      clear hV
      have AC := K8.out
      refine wpList_plain rfl (fun K hK => ?_)
      go_big_op
      with_reducible refine (AC _).mono ?_
      rintro e v91 ⟨rfl, hb⟩
      simp only []
      refine hK _ _ ?_
      clear hK K
      replace cG := cs_below cG hb (by omega)
      replace cS := cs_below cS hb (by omega)
      replace cT := cs_below cT hb (by omega)
      replace cU := cs_below cU hb (by omega)
      replace cQ := cs_below cQ hb (by omega)
      replace cq22 := cs_below cq22 hb (by omega)
      replace cq26 := cs_below cq26 hb (by omega)
      replace cq30 := cs_below cq30 hb (by omega)
      replace cq34 := cs_below cq34 hb (by omega)
      replace HBa := HBa.trans (hb.mono (by first | omega | exact HBa.size))
      replace zs := Nat.lt_of_lt_of_le zs hb.size
      clear hb
      clear AC
      go_upto_region 18 with fail
      by_cases ke1 : e1 = 0
      · subst ke1
        by_cases ke2 : e2 = 0
        · subst ke2
          have ue1 := H1.out rfl rfl
          subst ue1
          clear H1
          by_cases ke3 : e3 = 0
          · subst ke3
            by_cases ke4 : e4 = 0
            · subst ke4
              have ue3 := H2.out rfl rfl
              subst ue3
              clear H2
              go_wp2_with fail
              with_reducible refine (AL.out _).mono ?_
              rintro e z1 ⟨rfl, hb⟩
              go_wp2_with fail
              go_ret
              exact ⟨rfl, HBa.trans (hb.mono (by omega))⟩
            · have ge4 : (e4 == 0) = false := by simpa using ke4
              clear H2
              go_wp2_with fail
              with_reducible refine (AL.out _).mono ?_
              rintro e z1 ⟨rfl, hb⟩
              go_wp2_with fail
              go_ret
              exact ⟨rfl, HBa.trans (hb.mono (by omega))⟩
          · have ge3 : (e3 == 0) = false := by simpa using ke3
            clear H2
            go_wp2_with fail
            with_reducible refine (AL.out _).mono ?_
            rintro e z1 ⟨rfl, hb⟩
            go_wp2_with fail
            go_ret
            exact ⟨rfl, HBa.trans (hb.mono (by omega))⟩
        · have ge2 : (e2 == 0) = false := by simpa using ke2
          clear H1
          by_cases ke3 : e3 = 0
          · subst ke3
            by_cases ke4 : e4 = 0
            · subst ke4
              have ue3 := H2.out rfl rfl
              subst ue3
              clear H2
              go_wp2_with fail
              with_reducible refine (AL.out _).mono ?_
              rintro e z1 ⟨rfl, hb⟩
              go_wp2_with fail
              go_ret
              exact ⟨rfl, HBa.trans (hb.mono (by omega))⟩
            · have ge4 : (e4 == 0) = false := by simpa using ke4
              clear H2
              go_wp2_with fail
              with_reducible refine (AL.out _).mono ?_
              rintro e z1 ⟨rfl, hb⟩
              go_wp2_with fail
              go_ret
              exact ⟨rfl, HBa.trans (hb.mono (by omega))⟩
          · have ge3 : (e3 == 0) = false := by simpa using ke3
            clear H2
            go_wp2_with fail
            with_reducible refine (AL.out _).mono ?_
            rintro e z1 ⟨rfl, hb⟩
            go_wp2_with fail
            go_ret
            exact ⟨rfl, HBa.trans (hb.mono (by omega))⟩
      · have ge1 : (e1 == 0) = false := by simpa using ke1
        clear H1
        by_cases ke3 : e3 = 0
        · subst ke3
          by_cases ke4 : e4 = 0
          · subst ke4
            have ue3 := H2.out rfl rfl
            subst ue3
            clear H2
            go_wp2_with fail
            with_reducible refine (AL.out _).mono ?_
            rintro e z1 ⟨rfl, hb⟩
            go_wp2_with fail
            go_ret
            exact ⟨rfl, HBa.trans (hb.mono (by omega))⟩
          · have ge4 : (e4 == 0) = false := by simpa using ke4
            clear H2
            go_wp2_with fail
            with_reducible refine (AL.out _).mono ?_
            rintro e z1 ⟨rfl, hb⟩
            go_wp2_with fail
            go_ret
            exact ⟨rfl, HBa.trans (hb.mono (by omega))⟩
        · have ge3 : (e3 == 0) = false := by simpa using ke3
          clear H2
          go_wp2_with fail
          with_reducible refine (AL.out _).mono ?_
          rintro e z1 ⟨rfl, hb⟩
          go_wp2_with fail
          go_ret
          exact ⟨rfl, HBa.trans (hb.mono (by omega))⟩
    · have g0 : (ei == 0) = false := by simpa using k0
      clear HJ HB H1 H2 K5 K7 HL
      go_wp2_with fail
      with_reducible refine (AL.out _).mono ?_
      rintro e z1 ⟨rfl, hb⟩
      go_wp2_with fail
      go_ret
      exact ⟨rfl, HBa.trans (hb.mono (by omega))⟩
  · by_cases k0 : ei = 0
    · subst k0
      clear HJ HB H1 H2 K5 K7 HL
      go_wp2_with fail
      with_reducible refine (AL.out _).mono ?_
      rintro e z1 ⟨rfl, hb⟩
      go_wp2_with fail
      go_ret
      exact ⟨rfl, HBa.trans (hb.mono (by omega))⟩
    · have g0 : (ei == 0) = false := by simpa using k0
      clear HJ HB H1 H2 K5 K7 HL
      go_wp2_with fail
      with_reducible refine (AL.out _).mono ?_
      rintro e z1 ⟨rfl, hb⟩
      go_wp2_with fail
      go_ret
      exact ⟨rfl, HBa.trans (hb.mono (by omega))⟩
end Go.Proofs.Ytdolfdmgdknboaa
namespace Go.Proofs.Ytdolfdmgdknboaa
open Go.RowKit
set_option linter.unusedVariables false
set_option linter.unusedSimpArgs false

theorem ap_01 {M V : Nat → Int} (oM : okM M) (oV : okW V) : apE M V = 0 ∨ apE M V = 16 := by
  obtain ⟨u1, u2, u3⟩ := okM_row M oM
  have a := do_01 u1 oV
  have b := do_01 u2 oV
  have c := do_01 u3 oV
  rw [apE, if_pos ⟨oM, oV⟩]
  unfold apE0 fsI
  split <;> (try split) <;> simp_all
theorem dtW_01 {P Q : Nat → Int} (oP : okW P) (oQ : okW Q) : dtW P Q = 0 ∨ dtW P Q = 16 := dt_01 oP oQ
theorem dtW_ok {P Q : Nat → Int} (h : dtW P Q = 0) : okW P ∧ okW Q := by
  unfold dtW dtE at h
  split at h
  · rename_i k; exact k
  · exact absurd h (by omega)
/-- compare, Inside, On, mustLie, Side: results and errors for valid points. -/
theorem g_compareA {P Q : Nat → Int} (cP : okCW P) (cQ : okCW Q) (w : World) :
    Calls Try.prog 73 #[.agg #[.int .i64 (P 0), .int .i64 (P 1), .int .i64 (P 2), .int .i64 (P 3), .int .i64 (P 4), .int .i64 (P 5)], .agg #[.int .i64 (Q 0), .int .i64 (Q 1), .int .i64 (Q 2), .int .i64 (Q 3), .int .i64 (Q 4), .int .i64 (Q 5)]] w fun x w' => x = .returned (.tuple #[.int .i64 (if dtW P Q = 0 then cmW P Q else 0), .int .i64 (dtW P Q)]) ∧ Below w.heap.size w w' := by
  by_cases e : dtW P Q = 0
  · rw [if_pos e, e]
    exact g_compare (dtW_ok e).1 (dtW_ok e).2 e w
  · rw [if_neg e]
    exact geo_compare_e P Q _ _ _ (show (dtW P Q == 0) = false by simpa using e) (fun w => vec_Dot (P 0) (P 1) (P 2) (P 3) (P 4) (P 5) (Q 0) (Q 1) (Q 2) (Q 3) (Q 4) (Q 5) cP.1 cP.2.1 cP.2.2 cQ.1 cQ.2.1 cQ.2.2 w) w
def rel (A B : Int) (P : Nat → Int) : Nat → Int := apR (dgM A B) P
def inE (A B : Int) (P : Nat → Int) : Int := if apE (dgM A B) P = 0 then dtW (rel A B P) (rel A B P) else apE (dgM A B) P
def inN (A B : Int) (P : Nat → Int) : Int := if apE (dgM A B) P = 0 then (if dtW (rel A B P) (rel A B P) = 0 then cmW (rel A B P) (rel A B P) else 0) else 0
theorem g_InsideA {A B : Int} {P : Nat → Int} (hG : gOk A B) (oP : okW P) (w : World) :
    Calls Try.prog 26 #[.agg #[.int .i64 A, .int .i64 B], .agg #[.int .i64 (P 0), .int .i64 (P 1), .int .i64 (P 2), .int .i64 (P 3), .int .i64 (P 4), .int .i64 (P 5)]] w fun x w' => x = .returned (.tuple #[.int .i64 (inN A B P), .int .i64 (inE A B P)]) ∧ Below w.heap.size w w' := by
  obtain ⟨g1, g2, g3, g4⟩ := gOk_in hG
  have SH := fun w => g_shrink (a := A) (b := B) (by omega) (by omega) (by omega) (by omega) oP w
  by_cases e : apE (dgM A B) P = 0
  · rw [inN, inE, if_pos e, if_pos e]
    rw [e] at SH
    have cR : okCW (rel A B P) := okCW_ap
    exact geo_Inside2 P (rel A B P) A B _ _ (fun W gg h1 h2 => g_points1 hG oP W gg h1 h2) (fun w => geo_relative P _ A B 0 SH w) (fun w => g_compareA cR cR w) w
  · rw [inN, inE, if_neg e, if_neg e]
    exact geo_Inside_e P _ A B _ (by simpa using e) (fun W gg h1 h2 => g_points1 hG oP W gg h1 h2) (fun w => geo_relative P _ A B _ SH w) w
def onB (A B : Int) (P : Nat → Int) : Bool := if inE A B P = 0 then (inN A B P == 0) else false
theorem g_OnA {A B : Int} {P : Nat → Int} (hG : gOk A B) (oP : okW P) (w : World) :
    Calls Try.prog 24 #[.agg #[.int .i64 A, .int .i64 B], .agg #[.int .i64 (P 0), .int .i64 (P 1), .int .i64 (P 2), .int .i64 (P 3), .int .i64 (P 4), .int .i64 (P 5)]] w fun x w' => x = .returned (.tuple #[.bool (onB A B P), .int .i64 (inE A B P)]) ∧ Below w.heap.size w w' := by
  have IN := fun w => g_InsideA hG oP w
  by_cases e : inE A B P = 0
  · rw [onB, if_pos e, e]
    rw [e] at IN
    exact geo_On P A B _ _ rfl IN w
  · rw [onB, if_neg e]
    exact geo_On_e P A B _ _ (by simpa using e) IN w
def mlE (A B : Int) (P : Nat → Int) : Int := if inE A B P = 0 then (if inN A B P = 0 then 0 else 6) else inE A B P
theorem g_mustA {A B : Int} {P : Nat → Int} (hG : gOk A B) (oP : okW P) (w : World) :
    Calls Try.prog 77 #[.agg #[.int .i64 A, .int .i64 B], .agg #[.int .i64 (P 0), .int .i64 (P 1), .int .i64 (P 2), .int .i64 (P 3), .int .i64 (P 4), .int .i64 (P 5)]] w fun x w' => x = .returned (.int .i64 (mlE A B P)) ∧ Below w.heap.size w w' := by
  have ON := fun w => g_OnA hG oP w
  by_cases e : inE A B P = 0
  · rw [mlE, if_pos e]
    by_cases n : inN A B P = 0
    · rw [if_pos n]
      rw [onB, if_pos e, e, n] at ON
      exact geo_mustLie P A B ON w
    · rw [if_neg n]
      rw [onB, if_pos e, e, show (inN A B P == 0) = false by simpa using n] at ON
      exact geo_mustLie_no P A B ON w
  · rw [mlE, if_neg e]
    exact geo_mustLie_e P A B _ _ (by simpa using e) ON w
def nrm (A B : Int) (P : Nat → Int) : Nat → Int := apR (dgM (A * A) (B * B)) P
def sdE (A B : Int) (P Q : Nat → Int) : Int := if mlE A B P = 0 then dtW (nrm A B P) Q else mlE A B P
def sdN (A B : Int) (P Q : Nat → Int) : Int := if mlE A B P = 0 then (if dtW (nrm A B P) Q = 0 then cmW (nrm A B P) Q else 0) else 0
theorem g_SideA {A B : Int} {P Q : Nat → Int} (hG : gOk A B) (oP : okW P) (oQ : okW Q) (w : World) :
    Calls Try.prog 34 #[.agg #[.int .i64 A, .int .i64 B], .agg #[.int .i64 (P 0), .int .i64 (P 1), .int .i64 (P 2), .int .i64 (P 3), .int .i64 (P 4), .int .i64 (P 5)], .agg #[.int .i64 (Q 0), .int .i64 (Q 1), .int .i64 (Q 2), .int .i64 (Q 3), .int .i64 (Q 4), .int .i64 (Q 5)]] w fun x w' => x = .returned (.tuple #[.int .i64 (sdN A B P Q), .int .i64 (sdE A B P Q)]) ∧ Below w.heap.size w w' := by
  have ML := fun w => g_mustA hG oP w
  by_cases e : mlE A B P = 0
  · rw [sdN, sdE, if_pos e, if_pos e]
    rw [e] at ML
    have cN : okCW (nrm A B P) := okCW_ap
    exact geo_Side2 P Q (nrm A B P) A B _ _ _ (fun W gg h1 h2 => g_points2 hG oP oQ W gg h1 h2) ML (fun w => g_Normal hG oP w) (fun w => g_compareA cN (okW_cw oQ) w) w
  · rw [sdN, sdE, if_neg e, if_neg e]
    exact geo_Side_e P Q A B _ (by simpa using e) (fun W gg h1 h2 => g_points2 hG oP oQ W gg h1 h2) ML w
/-- Values. -/
theorem dg_val {a b : Int} {V : Nat → Int} (h1 : 1 ≤ a) (h2 : a ≤ 1000000000000000000) (h3 : 1 ≤ b) (h4 : b ≤ 1000000000000000000) (oV : okW V) (e : apE (dgM a b) V = 0) :
    okW (apR (dgM a b) V) ∧ vv (apR (dgM a b) V) 0 = qv 1 a * vv V 0 ∧ vv (apR (dgM a b) V) 1 = qv 1 a * vv V 1 ∧ vv (apR (dgM a b) V) 2 = qv 1 b * vv V 2 := by
  obtain ⟨o, v⟩ := q_ap (okM_dg h1 h2 h3 h4) oV e
  have v0 := v 0 (by omega)
  have v1 := v 1 (by omega)
  have v2 := v 2 (by omega)
  change _ = qv 1 a * _ + qv 0 1 * _ + qv 0 1 * _ at v0
  change _ = qv 0 1 * _ + qv 1 a * _ + qv 0 1 * _ at v1
  change _ = qv 0 1 * _ + qv 0 1 * _ + qv 1 b * _ at v2
  rw [q_01] at v0 v1 v2
  exact ⟨o, by rw [v0]; grind, by rw [v1]; grind, by rw [v2]; grind⟩
theorem cm_eq {P Q R S : Nat → Int} (e1 : dtW P Q = 0) (e2 : dtW R S = 0) (h : vv P 0 * vv Q 0 + vv P 1 * vv Q 1 + vv P 2 * vv Q 2 = vv R 0 * vv S 0 + vv R 1 * vv S 1 + vv R 2 * vv S 2) : cmW P Q = cmW R S := by
  obtain ⟨a1, a2⟩ := dt_in (dtW_ok e1).1 (dtW_ok e1).2 e1
  obtain ⟨b1, b2⟩ := dt_in (dtW_ok e2).1 (dtW_ok e2).2 e2
  obtain ⟨c1, c2⟩ := q_inj a1 b1 (by rw [a2, b2]; exact h)
  unfold cmW; rw [c1, c2]
theorem cm_one {P : Nat → Int} (e : dtW P P = 0) (h : vv P 0 * vv P 0 + vv P 1 * vv P 1 + vv P 2 * vv P 2 = 1) : cmW P P = 0 := by
  obtain ⟨a1, a2⟩ := dt_in (dtW_ok e).1 (dtW_ok e).2 e
  obtain ⟨c1, c2⟩ := q_inj a1 (show okF 1 1 = true by decide) (by rw [a2, q_11]; exact h)
  unfold cmW; rw [c1, c2]; decide
theorem in_01 {A B : Int} {P : Nat → Int} (hG : gOk A B) (oP : okW P) : inE A B P = 0 ∨ inE A B P = 16 := by
  obtain ⟨g1, g2, g3, g4⟩ := gOk_in hG
  have oM := okM_dg (a := A) (b := B) (by omega) (by omega) (by omega) (by omega)
  rw [inE]
  by_cases e : apE (dgM A B) P = 0
  · rw [if_pos e]
    have oR := (q_ap oM oP e).1
    exact dtW_01 oR oR
  · rw [if_neg e]; exact ap_01 oM oP
theorem in_zero {A B : Int} {P : Nat → Int} (e : inE A B P = 0) : apE (dgM A B) P = 0 ∧ dtW (rel A B P) (rel A B P) = 0 ∧ inN A B P = cmW (rel A B P) (rel A B P) := by
  unfold inE at e
  by_cases k : apE (dgM A B) P = 0
  · rw [if_pos k] at e
    exact ⟨k, e, by rw [inN, if_pos k, if_pos e]⟩
  · rw [if_neg k] at e; exact absurd e k
theorem z_val {r s : Int} {c k : Rat} {V : Nat → Int} (oM : okM (tmR 2 r s)) (vM : ∀ i j, i < 3 → j < 3 → mv (tmR 2 r s) i j = rotV (2 : Int).toNat c k i j) (oV : okW V) (e : apE (tmR 2 r s) V = 0) :
    okW (apR (tmR 2 r s) V) ∧ vv (apR (tmR 2 r s) V) 0 = c * vv V 0 - k * vv V 1 ∧ vv (apR (tmR 2 r s) V) 1 = k * vv V 0 + c * vv V 1 ∧ vv (apR (tmR 2 r s) V) 2 = vv V 2 := by
  obtain ⟨o, v⟩ := q_ap oM oV e
  refine ⟨o, ?_, ?_, ?_⟩
  · rw [v 0 (by omega), vM 0 0 (by omega) (by omega), vM 0 1 (by omega) (by omega), vM 0 2 (by omega) (by omega)]; simp [rotV]; grind
  · rw [v 1 (by omega), vM 1 0 (by omega) (by omega), vM 1 1 (by omega) (by omega), vM 1 2 (by omega) (by omega)]; simp [rotV]; grind
  · rw [v 2 (by omega), vM 2 0 (by omega) (by omega), vM 2 1 (by omega) (by omega), vM 2 2 (by omega) (by omega)]; simp [rotV]; grind

/-- A place, turned about the axis Z, is in range. -/
theorem turn_at {A B n d p q r s : Int} (hG : gOk A B) (hs : pOk n d) (h1 : -d ≤ n) (h2 : n ≤ d) (ht : pOk p q) (hr : pOk r s) : apE (tmR 2 r s) (atR A B n d p q) = 0 ∧ okW (atR A B n d p q) ∧
    ∃ c k u v f g : Rat, c * c + k * k = 1 ∧ (∀ i j, i < 3 → j < 3 → mv (tmR 2 r s) i j = rotV (2 : Int).toNat c k i j) ∧ okM (tmR 2 r s) ∧ u * u + v * v = 1 ∧ f * f + g * g = 1 ∧ vv (atR A B n d p q) 0 = f * ((A : Rat) * u) ∧ vv (atR A B n d p q) 1 = g * ((A : Rat) * u) ∧ vv (atR A B n d p q) 2 = (B : Rat) * v := by
  obtain ⟨eA, c1, c2, k1, k2, f1, f2, g1, g2, sc, sk, ck, sf, sg, fg, s0, s1, s2, x0, x1, x2⟩ := at_val hG hs h1 h2 ht
  have oP : okW (atR A B n d p q) := okW_of s0.1 s1.1 s2.1
  obtain ⟨tS, tp⟩ := par_pr hr
  have a2 : ¬ ((2 : Int) < 0 ∨ (2 : Int) < 2) := by omega
  obtain ⟨tc, ts⟩ := turn_sf tS
  obtain ⟨c, k, cr, _, _, _, oT, vT⟩ := q_tm hr.1 a2 tp
  have eT := (tm_ok 2 r s hr.1 a2 tp).1
  have v00 := vT 0 0 (by omega) (by omega)
  have v10 := vT 1 0 (by omega) (by omega)
  have oT' := oT
  rw [eT] at oT' v00 v10
  have w00 : qv (c_N r s) (c_D r s) = c := v00
  have w10 : qv (s_N r s) (s_D r s) = k := v10
  have hA : SF A 1 1000 1 := by
    obtain ⟨g1, g2, g3, g4⟩ := gOk_in hG
    exact ⟨okF_in ⟨by omega, by omega, by omega, by omega, by unfold gcdI; rw [show (1 : Int).natAbs = 1 from rfl, Nat.gcd_one_right]; rfl⟩, by omega, by omega, by omega⟩
  have qA : qv A 1 = (A : Rat) := by rw [q_div, show ((1 : Int) : Rat) = 1 from rfl]; grind
  generalize atR A B n d p q = P at *
  obtain ⟨ex, xS⟩ := sf_mu hA sc (by omega) (by omega)
  have xv := (q_mu hA.1 sc.1 ex).2
  obtain ⟨m1, b1⟩ := sf_mu tc s0 (by omega) (by omega)
  obtain ⟨m2, b2⟩ := sf_mu (sf_neg ts) s1 (by omega) (by omega)
  obtain ⟨m3, b3⟩ := sf_mu ts s0 (by omega) (by omega)
  obtain ⟨m4, b4⟩ := sf_mu tc s1 (by omega) (by omega)
  obtain ⟨m5, b5⟩ := sf_tw tc sf (sf_neg ts) sg (by omega) (by omega) (by omega) (by omega) (by omega) (by omega)
  obtain ⟨m6, b6⟩ := sf_tw ts sf tc sg (by omega) (by omega) (by omega) (by omega) (by omega) (by omega)
  obtain ⟨m7, b7⟩ := sf_mu b5 xS (by omega) (by omega)
  obtain ⟨m8, b8⟩ := sf_mu b6 xS (by omega) (by omega)
  have y1 := (q_mu tc.1 s0.1 m1).2
  have y2 := (q_mu (sf_neg ts).1 s1.1 m2).2
  have y3 := (q_mu ts.1 s0.1 m3).2
  have y4 := (q_mu tc.1 s1.1 m4).2
  have y5 := (q_tw tc.1 sf.1 (sf_neg ts).1 sg.1 m5).2
  have y6 := (q_tw ts.1 sf.1 tc.1 sg.1 m6).2
  have y7 := (q_mu b5.1 xS.1 m7).2
  have y8 := (q_mu b6.1 xS.1 m8).2
  rw [y5, xv, qA, q_neg] at y7
  rw [y6, xv, qA] at y8
  change qv (P 0) (P 1) = _ at x0
  change qv (P 2) (P 3) = _ at x1
  change qv (P 4) (P 5) = _ at x2
  obtain ⟨u1, u2, u3⟩ := okM_row _ oT'
  have D0 := fit_do u1 oP b1.1 b2.1 z01 b7.1 b7.1 y1 y2 (by rw [q_01]; exact (q_0v _ _).symm) (by show _ = qv (c_N r s) (c_D r s) * _ + qv (-(s_N r s)) (s_D r s) * _; rw [y7, q_neg, x0, x1]; grind) (by show _ = qv (c_N r s) (c_D r s) * _ + qv (-(s_N r s)) (s_D r s) * _ + qv 0 1 * _; rw [y7, q_neg, x0, x1, q_01]; grind)
  have D1 := fit_do u2 oP b3.1 b4.1 z01 b8.1 b8.1 y3 y4 (by rw [q_01]; exact (q_0v _ _).symm) (by show _ = qv (s_N r s) (s_D r s) * _ + qv (c_N r s) (c_D r s) * _; rw [y8, x0, x1]; grind) (by show _ = qv (s_N r s) (s_D r s) * _ + qv (c_N r s) (c_D r s) * _ + qv 0 1 * _; rw [y8, x0, x1, q_01]; grind)
  have D2 := do_z u3 oP s2.1 (q_0v _ _) (q_0v _ _) (by rw [show qv (tuN (2 : Int).toNat (c_N r s) (c_D r s) (s_N r s) (s_D r s) 16) (tuN (2 : Int).toNat (c_N r s) (c_D r s) (s_N r s) (s_D r s) 17) = 1 from q_11]; exact (Rat.one_mul _).symm)
  have e0 : apE (tuN (2 : Int).toNat (c_N r s) (c_D r s) (s_N r s) (s_D r s)) P = 0 := by
    rw [apE, if_pos ⟨oT', oP⟩]
    unfold apE0; rw [D0.2.2, D1.2.2, D2.2.2]; rfl
  rw [← eT] at e0
  exact ⟨e0, oP, c, k, _, _, _, _, cr, vT, oT, ck, fg, x0, x1, x2⟩
theorem g_refPlaced (n d p q : Int) (h : okC n d) (k : okC p q) (w : World) : Calls Try.prog 36 #[.agg #[.int .i64 n, .int .i64 d], .agg #[.int .i64 p, .int .i64 q]] w fun x w' => x = .returned (.bool (decide (pOk n d ∧ pOk p q ∧ -d ≤ n ∧ n ≤ d))) ∧ Below w.heap.size w w' := by
  have P1 := fun w => ref_Param n d (fun w => ref_Check n d h.1 h.2.1 h.2.2.1 h.2.2.2 w) w
  have P2 := fun w => ref_Param p q (fun w => ref_Check p q k.1 k.2.1 k.2.2.1 k.2.2.2 w) w
  by_cases a : pOk n d
  · rw [decide_eq_true a] at P1
    by_cases b : pOk p q
    · rw [decide_eq_true b] at P2
      obtain ⟨x1, x2, x3, x4, _⟩ := okF_out a.1
      have L1 := fun w => ref_Less 1 1 n d (by omega) (by omega) (by omega) (by omega) x3 x4 x1 x2 w
      have L2 := fun w => ref_Less n d (-1) 1 x3 x4 x1 x2 (by omega) (by omega) (by omega) (by omega) w
      by_cases c : 1 * d < n * 1
      · rw [decide_eq_true c] at L1
        rw [decide_eq_false (fun z => by have := z.2.2.2; omega)]
        exact rplaced_2 n d p q P1 P2 L1 w
      · rw [decide_eq_false c] at L1
        by_cases e : n * 1 < -1 * d
        · rw [decide_eq_true e] at L2
          rw [decide_eq_false (fun z => by have := z.2.2.1; omega)]
          exact rplaced_3 n d p q P1 P2 L1 L2 w
        · rw [decide_eq_false e] at L2
          rw [decide_eq_true ⟨a, b, by omega, by omega⟩]
          exact rplaced_4 n d p q P1 P2 L1 L2 w
    · rw [decide_eq_false b] at P2
      rw [decide_eq_false (fun z => b z.2.1)]
      exact rplaced_1 n d p q P1 P2 w
  · rw [decide_eq_false a] at P1
    rw [decide_eq_false (fun z => a z.1)]
    exact rplaced_0 n d p q P1 w
end Go.Proofs.Ytdolfdmgdknboaa
namespace Go.Proofs.Ytdolfdmgdknboaa
open Go.RowKit
set_option linter.unusedVariables false
set_option linter.unusedSimpArgs false

theorem on_one {a b x y c k u v f g p0 p1 p2 : Rat} (ia : a * x = 1) (ib : b * y = 1) (ck : c * c + k * k = 1) (uv : u * u + v * v = 1) (fg : f * f + g * g = 1) (h0 : p0 = f * (x * u)) (h1 : p1 = g * (x * u)) (h2 : p2 = y * v) :
    a * (c * p0 - k * p1) * (a * (c * p0 - k * p1)) + a * (k * p0 + c * p1) * (a * (k * p0 + c * p1)) + b * p2 * (b * p2) = 1 := by
  have e1 : a * (c * p0 - k * p1) = (a * x) * ((c * f - k * g) * u) := by rw [h0, h1]; grind
  have e2 : a * (k * p0 + c * p1) = (a * x) * ((k * f + c * g) * u) := by rw [h0, h1]; grind
  have e3 : b * p2 = (b * y) * v := by rw [h2]; grind
  rw [e1, e2, e3, ia, ib]
  have e4 : (c * f - k * g) * (c * f - k * g) + (k * f + c * g) * (k * f + c * g) = (c * c + k * k) * (f * f + g * g) := by grind
  rw [ck, fg] at e4
  have e5 : 1 * ((c * f - k * g) * u) * (1 * ((c * f - k * g) * u)) + 1 * ((k * f + c * g) * u) * (1 * ((k * f + c * g) * u)) + 1 * v * (1 * v) = ((c * f - k * g) * (c * f - k * g) + (k * f + c * g) * (k * f + c * g)) * (u * u) + v * v := by grind
  rw [e5, e4]
  grind
theorem sd_zero {A B : Int} {P Q : Nat → Int} (e : sdE A B P Q = 0) : dtW (nrm A B P) Q = 0 ∧ sdN A B P Q = cmW (nrm A B P) Q := by
  unfold sdE at e
  by_cases k : mlE A B P = 0
  · rw [if_pos k] at e
    exact ⟨e, by rw [sdN, if_pos k, if_pos e]⟩
  · rw [if_neg k] at e; exact absurd e k
theorem ap_back {M V : Nat → Int} (oM : okM M) (oV : okW V) (h : okW (apR M V)) : apE M V = 0 := by
  apply Classical.byContradiction
  intro k
  have q : okM M ∧ okW V := ⟨oM, oV⟩
  rw [apE, if_pos q] at k
  have e : ∀ o, apR M V o = 0 := fun o => by rw [apR, if_pos q, vz, if_neg k]
  have a := (okW_in h).1
  rw [e, e] at a
  exact absurd a (by decide)
set_option maxHeartbeats 1600000 in
theorem turned_all (Q : Nat → Int) (A B n d p q r s : Int) (cQ : okCW Q) (hs : okC n d) (ht : okC p q) (hr : okC r s) (w : World) :
    Calls Try.prog 8 #[.agg #[.int .i64 A, .int .i64 B], .agg #[.int .i64 n, .int .i64 d], .agg #[.int .i64 p, .int .i64 q], .agg #[.int .i64 r, .int .i64 s], .agg #[.int .i64 (Q 0), .int .i64 (Q 1), .int .i64 (Q 2), .int .i64 (Q 3), .int .i64 (Q 4), .int .i64 (Q 5)]] w fun x w' => x = .returned (.bool true) ∧ Below w.heap.size w w' := by
  have AL := fun w => galive w
  have CH := fun w => ref_GCheck A B w
  by_cases hG : gOk A B
  · rw [if_pos hG] at CH
    have PL := fun w => g_refPlaced n d p q hs ht w
    by_cases hp : pOk n d ∧ pOk p q ∧ -d ≤ n ∧ n ≤ d
    · rw [decide_eq_true hp] at PL
      obtain ⟨o1, o2, b1, b2⟩ := hp
      have PR := fun w => ref_Param r s (fun w => ref_Check r s hr.1 hr.2.1 hr.2.2.1 hr.2.2.2 w) w
      by_cases o3 : pOk r s
      · rw [decide_eq_true o3] at PR
        have VC := fun w => ref2_Check (Q 0) (Q 1) (Q 2) (Q 3) (Q 4) (Q 5) cQ.1 cQ.2.1 cQ.2.2 w
        by_cases oQ : okW Q
        · rw [show chV (Q 0) (Q 1) (Q 2) (Q 3) (Q 4) (Q 5) = 0 from if_pos oQ] at VC
          obtain ⟨g1, g2, g3, g4⟩ := gOk_in hG
          have u := mul_up (show 0 ≤ A by omega) g2 (show 0 ≤ A by omega) g2
          have v := mul_up (show 0 ≤ B by omega) g4 (show 0 ≤ B by omega) g4
          have u' := Int.mul_pos (show 0 < A by omega) (show 0 < A by omega)
          have v' := Int.mul_pos (show 0 < B by omega) (show 0 < B by omega)
          obtain ⟨eX, oP, c, k, uu, ww, f, g, ck, vM, oM, uw, fg, p0, p1, p2⟩ := turn_at hG o1 b1 b2 o2 o3
          have AT := fun w => g_At hG o1 b1 b2 o2 w
          rw [(at_val hG o1 b1 b2 o2).1] at AT
          generalize atR A B n d p q = P at *
          have TU := fun w => vec_TurnM 2 r s hr w
          have a2 : ¬ ((2 : Int) < 0 ∨ (2 : Int) < 2) := by omega
          rw [(tm_ok 2 r s o3.1 a2 (par_pr o3).2).2] at TU
          have AX := fun w => vec_ApplyM (tmR 2 r s) P (okM_okCM oM) (okW_cw oP) w
          rw [eX] at AX
          obtain ⟨oX, x0, x1, x2⟩ := z_val oM vM oP eX
          have aA : (A : Rat) ≠ 0 := cast_ne (by omega)
          have aB : (B : Rat) ≠ 0 := cast_ne (by omega)
          have iA : qv 1 A * (A : Rat) = 1 := by rw [q_div, show ((1 : Int) : Rat) = 1 from rfl]; grind
          have iB : qv 1 B * (B : Rat) = 1 := by rw [q_div, show ((1 : Int) : Rat) = 1 from rfl]; grind
          refine gturned_walk Q P (apR (tmR 2 r s) P) (apR (tmR 2 r s) Q) (tmR 2 r s) A B n d p q r s (apE (tmR 2 r s) Q) (inE A B (apR (tmR 2 r s) P)) (inE A B Q) (if apE (tmR 2 r s) Q = 0 then inE A B (apR (tmR 2 r s) Q) else 1) (sdE A B P Q) (if apE (tmR 2 r s) Q = 0 then sdE A B (apR (tmR 2 r s) P) (apR (tmR 2 r s) Q) else 1)
            (inN A B Q) (inN A B (apR (tmR 2 r s) Q)) (sdN A B P Q) (sdN A B (apR (tmR 2 r s) P) (apR (tmR 2 r s) Q)) (onB A B (apR (tmR 2 r s) P)) (in_01 hG oX) ?_ ?_ ?_ ?_ CH PL PR VC AL TU AT AX (fun w => vec_ApplyM (tmR 2 r s) Q (okM_okCM oM) cQ w) (fun w => g_OnA hG oX w) (fun w => g_InsideA hG oQ w) (fun w => g_SideA hG oP oQ w) w
          · intro e
            obtain ⟨z1, z2, z3⟩ := in_zero e
            obtain ⟨oR, r0, r1, r2⟩ := dg_val (a := A) (b := B) (by omega) (by omega) (by omega) (by omega) oX z1
            rw [onB, if_pos e, z3, cm_one z2 (by unfold rel; rw [r0, r1, r2, x0, x1, x2]; exact on_one iA iB ck uw fg p0 p1 p2)]
            rfl
          · intro e1 e2
            by_cases eY : apE (tmR 2 r s) Q = 0
            · rw [if_pos eY] at e2
              obtain ⟨z1, z2, z3⟩ := in_zero e1
              obtain ⟨y1, y2, y3⟩ := in_zero e2
              obtain ⟨oY, q0, q1, q2⟩ := z_val oM vM oQ eY
              obtain ⟨_, r0, r1, r2⟩ := dg_val (a := A) (b := B) (by omega) (by omega) (by omega) (by omega) oQ z1
              obtain ⟨_, s0, s1, s2⟩ := dg_val (a := A) (b := B) (by omega) (by omega) (by omega) (by omega) oY y1
              rw [z3, y3]
              refine cm_eq z2 y2 ?_
              unfold rel
              rw [r0, r1, r2, s0, s1, s2, q0, q1, q2]; grind
            · rw [if_neg eY] at e2; exact absurd e2 (by omega)
          · intro e1 e2
            by_cases eY : apE (tmR 2 r s) Q = 0
            · rw [if_pos eY] at e2
              obtain ⟨z1, z2⟩ := sd_zero e1
              obtain ⟨y1, y2⟩ := sd_zero e2
              have oD := okM_dg (a := A * A) (b := B * B) (by omega) (by omega) (by omega) (by omega)
              obtain ⟨oY, q0, q1, q2⟩ := z_val oM vM oQ eY
              obtain ⟨_, r0, r1, r2⟩ := dg_val (a := A * A) (b := B * B) (by omega) (by omega) (by omega) (by omega) oP (ap_back oD oP (dtW_ok z1).1)
              obtain ⟨_, s0, s1, s2⟩ := dg_val (a := A * A) (b := B * B) (by omega) (by omega) (by omega) (by omega) oX (ap_back oD oX (dtW_ok y1).1)
              rw [z2, y2]
              refine cm_eq z1 y1 ?_
              unfold nrm
              rw [r0, r1, r2, s0, s1, s2, q0, q1, q2, x0, x1, x2]; grind
            · rw [if_neg eY] at e2; exact absurd e2 (by omega)
          · intro eY
            have oY := (z_val oM vM oQ eY).1
            rw [if_pos eY, if_pos eY]
            exact ⟨fun w => g_InsideA hG oY w, fun w => g_SideA hG oX oY w⟩
        · rw [show chV (Q 0) (Q 1) (Q 2) (Q 3) (Q 4) (Q 5) = 8 from if_neg oQ] at VC
          exact gturned_out_3 Q A B n d p q r s CH PL PR VC AL w
      · rw [decide_eq_false o3] at PR
        exact gturned_out_2 Q A B n d p q r s CH PL PR AL w
    · rw [decide_eq_false hp] at PL
      exact gturned_out_1 Q A B n d p q r s CH PL AL w
  · rw [if_neg hG] at CH
    exact gturned_out_0 Q A B n d p q r s CH AL w
end Go.Proofs.Ytdolfdmgdknboaa
