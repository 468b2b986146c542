/-
  Package geoid: Params of the example.  Package geoid: parameters of the example.
-/
import Derived.Lib.Hide
import Derived.Test.YtdolfdmgdknboaaGca
import Derived.Deep.RegionHeld3
import Derived.Deep.DeepCutAuto
import Derived.Deep.QuietTactic
import Derived.BigQuiet
import Derived.Laws.BitsLemmas
import Derived.Test.YtdolfdmgdknboaaMA
namespace Go.Proofs.Ytdolfdmgdknboaa
open Go.RowKit
set_option linter.unusedVariables false
set_option linter.unusedSimpArgs false

set_option maxRecDepth 100000 in
set_option maxHeartbeats 3200000 in
theorem geo_Params (P R : Nat → Int) (A B s1 s2 t1 t2 er : Int) (ML : ∀ w : World, Calls Try.prog 77 #[.agg #[.int .i64 A, .int .i64 B], .agg #[.int .i64 (P 0), .int .i64 (P 1), .int .i64 (P 2), .int .i64 (P 3), .int .i64 (P 4), .int .i64 (P 5)]] w fun x w' => x = .returned (.int .i64 0) ∧ Below w.heap.size w w') (RL : ∀ w : World, Calls Try.prog 72 #[.agg #[.int .i64 A, .int .i64 B], .agg #[.int .i64 (P 0), .int .i64 (P 1), .int .i64 (P 2), .int .i64 (P 3), .int .i64 (P 4), .int .i64 (P 5)]] w fun x w' => x = .returned (.tuple #[.agg #[.int .i64 (R 0), .int .i64 (R 1), .int .i64 (R 2), .int .i64 (R 3), .int .i64 (R 4), .int .i64 (R 5)], .int .i64 er]) ∧ Below w.heap.size w w') (PM : ∀ w : World, Calls Try.prog 78 #[.agg #[.int .i64 (R 0), .int .i64 (R 1), .int .i64 (R 2), .int .i64 (R 3), .int .i64 (R 4), .int .i64 (R 5)]] w fun x w' => x = .returned (.tuple #[.agg #[.int .i64 s1, .int .i64 s2], .agg #[.int .i64 t1, .int .i64 t2], .bool false]) ∧ Below w.heap.size w w') (w : World) :
    Calls Try.prog 30 #[.agg #[.int .i64 A, .int .i64 B], .agg #[.int .i64 (P 0), .int .i64 (P 1), .int .i64 (P 2), .int .i64 (P 3), .int .i64 (P 4), .int .i64 (P 5)]] w fun x w' => x = .returned (.tuple #[.agg #[.int .i64 0, .int .i64 0], .agg #[.int .i64 0, .int .i64 0], .int .i64 6]) ∧ Below w.heap.size w w' := by
  have dAl := dAl; have dSt := dSt
  go_enter Try.func30, Try.ntmps30
  go_upto_region 1 with fail
  refine opq (fun wx => Cs wx (w.heap.size) 2 (fg2 A B) ∧ Cs wx (w.heap.size + 1) 6 P ∧ Cs wx (w.heap.size + 1 + 1) 2 (fg2 0 0) ∧ Fs wx (w.heap.size + 1 + 1) 2 ∧ Cs wx (w.heap.size + 1 + 1 + 1) 2 (fg2 0 0) ∧ Fs wx (w.heap.size + 1 + 1 + 1) 2 ∧ w.heap.size + 1 + 1 + 1 < wx.heap.size ∧ Below w.heap.size w wx) ?_ ?_
  · exact ⟨cs_alloc _ (cs_alloc _ (cs_alloc _ (cs_new (by simp) (arg2 A B)) (by simp <;> omega)) (by simp <;> omega)) (by simp <;> omega), cs_alloc _ (cs_alloc _ (cs_new (by simp) (arrV P)) (by simp <;> omega)) (by simp <;> omega), cs_alloc _ (cs_new (by simp) (arg2 0 0)) (by simp <;> omega), fs_alloc _ (fs_new (by simp)) (by simp <;> omega), cs_new (by simp) (arg2 0 0), fs_new (by simp), by simp, by (repeat (first | with_reducible exact b0 _ | (with_reducible refine bext ?_ _ _) | (with_reducible refine below_drewN ?_ _) | (with_reducible refine Below.drew ?_) | (with_reducible refine bal ?_ _)))⟩
  rintro w0 ⟨c0, c1, c2, f2, c3, f3, zs, HBa⟩
  have i0 : fg2 A B 0 = A := rfl
  have i1 : fg2 A B 1 = B := rfl
  have j0 : fg2 0 0 0 = 0 := rfl
  have j1 : fg2 0 0 1 = 0 := rfl
  have hc0 : ∀ o, o < 2 → w0.cell? ⟨w.heap.size, o, none⟩ = some (.int .i64 ((fg2 A B) o)) := c0
  have hc1 : ∀ o, o < 6 → w0.cell? ⟨w.heap.size + 1, o, none⟩ = some (.int .i64 (P o)) := c1
  have hc2 : ∀ o, o < 2 → w0.cell? ⟨w.heap.size + 1 + 1, o, none⟩ = some (.int .i64 ((fg2 0 0) o)) := c2
  have hf2 : ∀ o, o < 2 → w0.frozen? ⟨w.heap.size + 1 + 1, o, none⟩ = false := f2
  have hc3 : ∀ o, o < 2 → w0.cell? ⟨w.heap.size + 1 + 1 + 1, o, none⟩ = some (.int .i64 ((fg2 0 0) o)) := c3
  have hf3 : ∀ o, o < 2 → w0.frozen? ⟨w.heap.size + 1 + 1 + 1, o, none⟩ = false := f3
  go_wp2_with fail
  with_reducible refine (ML _).mono ?_
  rintro e v1 ⟨rfl, hb⟩
  clear hc0 hc1 hc2 hf2 hc3 hf3
  replace c0 := cs_below c0 hb (by omega)
  replace c1 := cs_below c1 hb (by omega)
  replace c2 := cs_below c2 hb (by omega)
  replace f2 := fs_below f2 hb (by omega)
  replace c3 := cs_below c3 hb (by omega)
  replace f3 := fs_below f3 hb (by omega)
  replace HBa := HBa.trans (hb.mono (by first | omega | exact HBa.size))
  replace zs := Nat.lt_of_lt_of_le zs hb.size
  clear hb
  have hc0 : ∀ o, o < 2 → v1.cell? ⟨w.heap.size, o, none⟩ = some (.int .i64 ((fg2 A B) o)) := c0
  have hc1 : ∀ o, o < 6 → v1.cell? ⟨w.heap.size + 1, o, none⟩ = some (.int .i64 (P o)) := c1
  have hc2 : ∀ o, o < 2 → v1.cell? ⟨w.heap.size + 1 + 1, o, none⟩ = some (.int .i64 ((fg2 0 0) o)) := c2
  have hf2 : ∀ o, o < 2 → v1.frozen? ⟨w.heap.size + 1 + 1, o, none⟩ = false := f2
  have hc3 : ∀ o, o < 2 → v1.cell? ⟨w.heap.size + 1 + 1 + 1, o, none⟩ = some (.int .i64 ((fg2 0 0) o)) := c3
  have hf3 : ∀ o, o < 2 → v1.frozen? ⟨w.heap.size + 1 + 1 + 1, o, none⟩ = false := f3
  go_wp2_with fail
  with_reducible refine (RL _).mono ?_
  rintro e v2 ⟨rfl, hb⟩
  clear hc0 hc1 hc2 hf2 hc3 hf3
  replace c0 := cs_below c0 hb (by omega)
  replace c1 := cs_below c1 hb (by omega)
  replace c2 := cs_below c2 hb (by omega)
  replace f2 := fs_below f2 hb (by omega)
  replace c3 := cs_below c3 hb (by omega)
  replace f3 := fs_below f3 hb (by omega)
  replace HBa := HBa.trans (hb.mono (by first | omega | exact HBa.size))
  replace zs := Nat.lt_of_lt_of_le zs hb.size
  clear hb
  have hc0 : ∀ o, o < 2 → v2.cell? ⟨w.heap.size, o, none⟩ = some (.int .i64 ((fg2 A B) o)) := c0
  have hc1 : ∀ o, o < 6 → v2.cell? ⟨w.heap.size + 1, o, none⟩ = some (.int .i64 (P o)) := c1
  have hc2 : ∀ o, o < 2 → v2.cell? ⟨w.heap.size + 1 + 1, o, none⟩ = some (.int .i64 ((fg2 0 0) o)) := c2
  have hf2 : ∀ o, o < 2 → v2.frozen? ⟨w.heap.size + 1 + 1, o, none⟩ = false := f2
  have hc3 : ∀ o, o < 2 → v2.cell? ⟨w.heap.size + 1 + 1 + 1, o, none⟩ = some (.int .i64 ((fg2 0 0) o)) := c3
  have hf3 : ∀ o, o < 2 → v2.frozen? ⟨w.heap.size + 1 + 1 + 1, o, none⟩ = false := f3
  go_upto_region 5 with fail
  clear hc0 hc1 hc2 hf2 hc3 hf3
  have zb := HBa.size
  refine opq (fun wx => Cs wx (w.heap.size) 2 (fg2 A B) ∧ Cs wx (w.heap.size + 1) 6 P ∧ Cs wx (w.heap.size + 1 + 1) 2 (fg2 0 0) ∧ Fs wx (w.heap.size + 1 + 1) 2 ∧ Cs wx (w.heap.size + 1 + 1 + 1) 2 (fg2 0 0) ∧ Fs wx (w.heap.size + 1 + 1 + 1) 2 ∧ Cs wx (v2.heap.size) 6 R ∧ v2.heap.size < wx.heap.size ∧ Below w.heap.size w wx) ?_ ?_
  · exact ⟨by (repeat (first | with_reducible exact c0 | with_reducible refine cs_drewN ?_ | with_reducible refine cs_drew ?_ | with_reducible refine cs_ext ?_ (by first | omega | (simp [ext_size, World.setCell] <;> omega)) _ _ | with_reducible refine cs_alloc _ ?_ (by first | omega | (simp [ext_size, World.setCell] <;> omega)) | with_reducible refine cs_up ?_ (by decide) | with_reducible refine cs_set _ ?_ (by first | omega | (simp <;> omega)))), by (repeat (first | with_reducible exact c1 | with_reducible refine cs_drewN ?_ | with_reducible refine cs_drew ?_ | with_reducible refine cs_ext ?_ (by first | omega | (simp [ext_size, World.setCell] <;> omega)) _ _ | with_reducible refine cs_alloc _ ?_ (by first | omega | (simp [ext_size, World.setCell] <;> omega)) | with_reducible refine cs_up ?_ (by decide) | with_reducible refine cs_set _ ?_ (by first | omega | (simp <;> omega)))), by (repeat (first | with_reducible exact c2 | with_reducible refine cs_drewN ?_ | with_reducible refine cs_drew ?_ | with_reducible refine cs_ext ?_ (by first | omega | (simp [ext_size, World.setCell] <;> omega)) _ _ | with_reducible refine cs_alloc _ ?_ (by first | omega | (simp [ext_size, World.setCell] <;> omega)) | with_reducible refine cs_up ?_ (by decide) | with_reducible refine cs_set _ ?_ (by first | omega | (simp <;> omega)))), by (repeat (first | with_reducible exact f2 | with_reducible refine fs_drewN ?_ | with_reducible refine fs_drew ?_ | with_reducible refine fs_ext ?_ (by first | omega | (simp [ext_size, World.setCell] <;> omega)) _ _ | with_reducible refine fs_alloc _ ?_ (by first | omega | (simp [ext_size, World.setCell] <;> omega)) | with_reducible refine fs_set _ ?_)), by (repeat (first | with_reducible exact c3 | with_reducible refine cs_drewN ?_ | with_reducible refine cs_drew ?_ | with_reducible refine cs_ext ?_ (by first | omega | (simp [ext_size, World.setCell] <;> omega)) _ _ | with_reducible refine cs_alloc _ ?_ (by first | omega | (simp [ext_size, World.setCell] <;> omega)) | with_reducible refine cs_up ?_ (by decide) | with_reducible refine cs_set _ ?_ (by first | omega | (simp <;> omega)))), by (repeat (first | with_reducible exact f3 | with_reducible refine fs_drewN ?_ | with_reducible refine fs_drew ?_ | with_reducible refine fs_ext ?_ (by first | omega | (simp [ext_size, World.setCell] <;> omega)) _ _ | with_reducible refine fs_alloc _ ?_ (by first | omega | (simp [ext_size, World.setCell] <;> omega)) | with_reducible refine fs_set _ ?_)), by (intro o ho; rcases (show o = 0 ∨ o = 1 ∨ o = 2 ∨ o = 3 ∨ o = 4 ∨ o = 5 by omega) with rfl | rfl | rfl | rfl | rfl | rfl <;> (simp (maxDischargeDepth := 8) [fg2, fg6, go_sem, World.cell?_alloc_past, ltk2, ltk3, ltk4, ltk5])), by (simp [World.setCell] <;> omega), by (repeat (first | with_reducible exact HBa | (with_reducible refine bextm ?_ (by first | omega | (simp [ext_size, World.setCell] <;> omega)) _ _) | (with_reducible refine below_drewN ?_ _) | (with_reducible refine Below.drew ?_) | (with_reducible refine Below.alloc ?_ (by first | omega | (simp [ext_size, World.setCell] <;> omega)) _) | (with_reducible refine Below.setCell ?_ (by first | omega | (simp [ext_size, World.setCell] <;> omega)) _)))⟩
  have yy3 := zs
  clear c0 c1 c2 f2 c3 f3 HBa zb zs
  generalize hq : v2.heap.size = q2 at *
  clear hq
  rintro uu3 ⟨c0, c1, c2, f2, c3, f3, d0, zn, HBa⟩
  have zs := zn
  clear zn
  have hc0 : ∀ o, o < 2 → uu3.cell? ⟨w.heap.size, o, none⟩ = some (.int .i64 ((fg2 A B) o)) := c0
  have hc1 : ∀ o, o < 6 → uu3.cell? ⟨w.heap.size + 1, o, none⟩ = some (.int .i64 (P o)) := c1
  have hc2 : ∀ o, o < 2 → uu3.cell? ⟨w.heap.size + 1 + 1, o, none⟩ = some (.int .i64 ((fg2 0 0) o)) := c2
  have hf2 : ∀ o, o < 2 → uu3.frozen? ⟨w.heap.size + 1 + 1, o, none⟩ = false := f2
  have hc3 : ∀ o, o < 2 → uu3.cell? ⟨w.heap.size + 1 + 1 + 1, o, none⟩ = some (.int .i64 ((fg2 0 0) o)) := c3
  have hf3 : ∀ o, o < 2 → uu3.frozen? ⟨w.heap.size + 1 + 1 + 1, o, none⟩ = false := f3
  have hd0 : ∀ o, o < 6 → uu3.cell? ⟨q2, o, none⟩ = some (.int .i64 (R o)) := d0
  go_wp2_with fail
  with_reducible refine (PM _).mono ?_
  rintro e v4 ⟨rfl, hb⟩
  clear hc0 hc1 hc2 hf2 hc3 hf3 hd0
  replace c0 := cs_below c0 hb (by omega)
  replace c1 := cs_below c1 hb (by omega)
  replace c2 := cs_below c2 hb (by omega)
  replace f2 := fs_below f2 hb (by omega)
  replace c3 := cs_below c3 hb (by omega)
  replace f3 := fs_below f3 hb (by omega)
  replace d0 := cs_below d0 hb (by omega)
  replace HBa := HBa.trans (hb.mono (by first | omega | exact HBa.size))
  replace zs := Nat.lt_of_lt_of_le zs hb.size
  clear hb
  clear c0
  clear c1
  clear d0
  have hc2 : ∀ o, o < 2 → v4.cell? ⟨w.heap.size + 1 + 1, o, none⟩ = some (.int .i64 ((fg2 0 0) o)) := c2
  have hf2 : ∀ o, o < 2 → v4.frozen? ⟨w.heap.size + 1 + 1, o, none⟩ = false := f2
  have hc3 : ∀ o, o < 2 → v4.cell? ⟨w.heap.size + 1 + 1 + 1, o, none⟩ = some (.int .i64 ((fg2 0 0) o)) := c3
  have hf3 : ∀ o, o < 2 → v4.frozen? ⟨w.heap.size + 1 + 1 + 1, o, none⟩ = false := f3
  go_upto_region 7 with fail
  clear hc2 hf2 hc3 hf3
  have n23 : w.heap.size + 1 + 1 ≠ w.heap.size + 1 + 1 + 1 := by omega
  have n32 : w.heap.size + 1 + 1 + 1 ≠ w.heap.size + 1 + 1 := by omega
  have zb := HBa.size
  refine opq (fun wx => Cs wx (w.heap.size + 1 + 1) 2 (fg2 s1 s2) ∧ Fs wx (w.heap.size + 1 + 1) 2 ∧ Cs wx (w.heap.size + 1 + 1 + 1) 2 (fg2 t1 t2) ∧ Fs wx (w.heap.size + 1 + 1 + 1) 2 ∧ Below w.heap.size w wx) ?_ ?_
  · exact ⟨cs_set _ (cs_set _ (cs_eq (cs_up (cs_up c2 (by decide)) (by decide)) (by intro o ho; rcases (show o = 0 ∨ o = 1 by omega) with rfl | rfl <;> rfl)) n23) n23, fs_set _ (fs_set _ (fs_set _ (fs_set _ f2))),
      cs_eq (cs_up (cs_up (cs_set _ (cs_set _ c3 n32) n32) (by decide)) (by decide)) (by intro o ho; rcases (show o = 0 ∨ o = 1 by omega) with rfl | rfl <;> rfl), fs_set _ (fs_set _ (fs_set _ (fs_set _ f3))), by (repeat (first | with_reducible exact HBa | (with_reducible refine bextm ?_ (by first | omega | (simp [ext_size, World.setCell] <;> omega)) _ _) | (with_reducible refine below_drewN ?_ _) | (with_reducible refine Below.drew ?_) | (with_reducible refine Below.alloc ?_ (by first | omega | (simp [ext_size, World.setCell] <;> omega)) _) | (with_reducible refine Below.setCell ?_ (by first | omega | (simp [ext_size, World.setCell] <;> omega)) _)))⟩
  clear c2 f2 c3 f3 HBa
  rintro wy ⟨c2, f2, c3, f3, HBa⟩
  have a0 : wy.cell? ⟨w.heap.size + 1 + 1, 0, none⟩ = some (.int .i64 s1) := c2 0 (by omega)
  have a1 : wy.cell? ⟨w.heap.size + 1 + 1, 1, none⟩ = some (.int .i64 s2) := c2 1 (by omega)
  have a2 : wy.cell? ⟨w.heap.size + 1 + 1 + 1, 0, none⟩ = some (.int .i64 t1) := c3 0 (by omega)
  have a3 : wy.cell? ⟨w.heap.size + 1 + 1 + 1, 1, none⟩ = some (.int .i64 t2) := c3 1 (by omega)
  have g0 := f2 0 (by omega)
  have g1 := f2 1 (by omega)
  have g2 := f3 0 (by omega)
  have g3 := f3 1 (by omega)
  have m23 : (w.heap.size + 1 + 1 = w.heap.size + 1 + 1 + 1) = False := eq_false n23
  have m32 : (w.heap.size + 1 + 1 + 1 = w.heap.size + 1 + 1) = False := eq_false n32
  clear c2 f2 c3 f3 n23 n32
  go_wp2
  refine bodyPost_ret (by simp [results, Try.results30, go_sem, ext_cell, World.cell?_alloc_past, ltk2, ltk3, ltk4, ltk5, ltk6, ltk7, ltk8, ltk9, *]; try rfl) rfl ?_
  exact ⟨rfl, by (repeat (first | with_reducible exact HBa | (with_reducible refine bextm ?_ (by first | omega | (simp [ext_size, World.setCell] <;> omega)) _ _) | (with_reducible refine below_drewN ?_ _) | (with_reducible refine Below.drew ?_) | (with_reducible refine Below.alloc ?_ (by first | omega | (simp [ext_size, World.setCell] <;> omega)) _) | (with_reducible refine Below.setCell ?_ (by first | omega | (simp [ext_size, World.setCell] <;> omega)) _)))⟩
end Go.Proofs.Ytdolfdmgdknboaa
namespace Go.Proofs.Ytdolfdmgdknboaa
open Go.RowKit
set_option linter.unusedVariables false
set_option linter.unusedSimpArgs false

set_option maxRecDepth 100000 in
set_option maxHeartbeats 3200000 in
theorem across_f (g : Nat) (w : World) (hg : g < w.heap.size) (hc : w.cell? ⟨g, 0, none⟩ = some (.int .i64 1)) :
    Calls Try.prog 131 #[.int .i64 0, .pointer (some ⟨g, 0, none⟩)] w fun x w' => x = .returned (.bool false) ∧ Below w.heap.size w w' := by
  have dAl := dAl; have dSt := dSt; have xC := ext_cell; have xF := ext_frozen; have xS := ext_set; have xN := ext_drewN; have xD := ext_drew; have xL := ext_lt; have xE := ext_ne; have xG := ext_nr; have xX := ext_ext; have xL1 := ext_lt1; have xL2 := ext_lt2; have xL3 := ext_lt3; have xM0 := ext_le0; have xM1 := ext_le1; have xM2 := ext_le2
  go_enter Try.func131, Try.ntmps131
  go_wp2
  go_ret
  exact ⟨rfl, by (repeat (first | with_reducible exact b0 _ | (with_reducible refine bext ?_ _ _) | (with_reducible refine below_drewN ?_ _) | (with_reducible refine Below.drew ?_) | (with_reducible refine bal ?_ _) | (with_reducible refine bset ?_ (by first | omega | (simp <;> omega)) _)))⟩
set_option maxRecDepth 100000 in
set_option maxHeartbeats 3200000 in
theorem search_1 (g : Nat) (w : World) (hg : g < w.heap.size) (hc : w.cell? ⟨g, 0, none⟩ = some (.int .i64 1)) :
    Calls Try.prog 130 #[.int .i64 1, .func (.func 131) #[] #[.pointer (some ⟨g, 0, none⟩)]] w fun x w' => x = .returned (.int .i64 1) ∧ Below w.heap.size w w' := by
  have F0 := fun w h k => across_f g w h k
  have dAl := dAl; have dSt := dSt; have xC := ext_cell; have xF := ext_frozen; have xS := ext_set; have xN := ext_drewN; have xD := ext_drew; have xL := ext_lt; have xE := ext_ne; have xG := ext_nr; have xX := ext_ext; have xL1 := ext_lt1; have xL2 := ext_lt2; have xL3 := ext_lt3; have xM0 := ext_le0; have xM1 := ext_le1; have xM2 := ext_le2
  go_enter Try.func130, Try.ntmps130
  go_wp2_with fail
  refine wp_loop_rounds 3 ?_
  rw [rounds_succ]
  go_wp2_with fail
  with_reducible refine (F0 _ ?_ ?_).mono ?_
  · exact hg
  · exact hc
  rintro e w1 ⟨rfl, hb⟩
  go_wp2_with fail
  rw [rounds_succ]
  go_wp2
  go_ret
  exact ⟨rfl, hb⟩
set_option maxRecDepth 100000 in
set_option maxHeartbeats 3200000 in
theorem geo_across (M1 : ∀ w : World, Calls Try.prog 108 #[.int .i64 1, .int .i64 1] w fun x w' => x = .returned (.tuple #[.agg #[.int .i64 1, .int .i64 1], .int .i64 0]) ∧ Below w.heap.size w w') (w : World) :
    Calls Try.prog 112 #[.agg #[.int .i64 0, .int .i64 1]] w fun x w' => x = .returned (.tuple #[.agg #[.int .i64 1, .int .i64 1], .bool true]) ∧ Below w.heap.size w w' := by
  have S1 := fun g w h k => search_1 g w h k
  have dAl := dAl; have dSt := dSt
  go_enter Try.func112, Try.ntmps112
  go_upto_region 1 with fail
  refine opq (fun wx => Cs wx (w.heap.size) 2 (fg2 0 1) ∧ Cs wx (w.heap.size + 1) 2 (fg2 0 0) ∧ Fs wx (w.heap.size + 1) 2 ∧ w.heap.size + 1 < wx.heap.size ∧ Below w.heap.size w wx) ?_ ?_
  · exact ⟨cs_alloc _ (cs_new (by simp) (arg2 0 1)) (by simp <;> omega), cs_new (by simp) (arg2 0 0), fs_new (by simp), by simp, by (repeat (first | with_reducible exact b0 _ | (with_reducible refine bext ?_ _ _) | (with_reducible refine below_drewN ?_ _) | (with_reducible refine Below.drew ?_) | (with_reducible refine bal ?_ _)))⟩
  rintro w0 ⟨c0, c1, f1, zs, HBa⟩
  have i0 : fg2 0 1 0 = 0 := rfl
  have i1 : fg2 0 1 1 = 1 := rfl
  have i2 : fg2 0 0 0 = 0 := rfl
  have i3 : fg2 0 0 1 = 0 := rfl
  have hc0 : ∀ o, o < 2 → w0.cell? ⟨w.heap.size, o, none⟩ = some (.int .i64 ((fg2 0 1) o)) := c0
  have hc1 : ∀ o, o < 2 → w0.cell? ⟨w.heap.size + 1, o, none⟩ = some (.int .i64 ((fg2 0 0) o)) := c1
  have hf1 : ∀ o, o < 2 → w0.frozen? ⟨w.heap.size + 1, o, none⟩ = false := f1
  go_upto_region 2 with fail
  clear hc0 hc1 hf1
  have zb := HBa.size
  refine opq (fun wx => Cs wx (w.heap.size) 2 (fg2 0 1) ∧ Cs wx (w.heap.size + 1) 2 (fg2 0 0) ∧ Fs wx (w.heap.size + 1) 2 ∧ Cs wx (w0.heap.size) 1 (fun _ => 1) ∧ w0.heap.size < wx.heap.size ∧ Below w.heap.size w wx) ?_ ?_
  · exact ⟨by (repeat (first | with_reducible exact c0 | with_reducible refine cs_drewN ?_ | with_reducible refine cs_drew ?_ | with_reducible refine cs_ext ?_ (by first | omega | (simp [ext_size, World.setCell] <;> omega)) _ _ | with_reducible refine cs_alloc _ ?_ (by first | omega | (simp [ext_size, World.setCell] <;> omega)) | with_reducible refine cs_up ?_ (by decide) | with_reducible refine cs_set _ ?_ (by first | omega | (simp <;> omega)))), by (repeat (first | with_reducible exact c1 | with_reducible refine cs_drewN ?_ | with_reducible refine cs_drew ?_ | with_reducible refine cs_ext ?_ (by first | omega | (simp [ext_size, World.setCell] <;> omega)) _ _ | with_reducible refine cs_alloc _ ?_ (by first | omega | (simp [ext_size, World.setCell] <;> omega)) | with_reducible refine cs_up ?_ (by decide) | with_reducible refine cs_set _ ?_ (by first | omega | (simp <;> omega)))), by (repeat (first | with_reducible exact f1 | with_reducible refine fs_drewN ?_ | with_reducible refine fs_drew ?_ | with_reducible refine fs_ext ?_ (by first | omega | (simp [ext_size, World.setCell] <;> omega)) _ _ | with_reducible refine fs_alloc _ ?_ (by first | omega | (simp [ext_size, World.setCell] <;> omega)) | with_reducible refine fs_set _ ?_)), by (intro o ho; rcases (show o = 0 by omega) with rfl <;> (simp (maxDischargeDepth := 8) [fg2, fg6, go_sem, World.cell?_alloc_past, ltk2, ltk3, ltk4, ltk5])), by (simp [World.setCell] <;> omega), by (repeat (first | with_reducible exact HBa | (with_reducible refine bextm ?_ (by first | omega | (simp [ext_size, World.setCell] <;> omega)) _ _) | (with_reducible refine below_drewN ?_ _) | (with_reducible refine Below.drew ?_) | (with_reducible refine Below.alloc ?_ (by first | omega | (simp [ext_size, World.setCell] <;> omega)) _) | (with_reducible refine Below.setCell ?_ (by first | omega | (simp [ext_size, World.setCell] <;> omega)) _)))⟩
  have yy1 := zs
  clear c0 c1 f1 HBa zb zs
  generalize hq : w0.heap.size = q0 at *
  clear hq
  rintro uu1 ⟨c0, c1, f1, d0, zn, HBa⟩
  have zs := zn
  clear zn
  have hc0 : ∀ o, o < 2 → uu1.cell? ⟨w.heap.size, o, none⟩ = some (.int .i64 ((fg2 0 1) o)) := c0
  have hc1 : ∀ o, o < 2 → uu1.cell? ⟨w.heap.size + 1, o, none⟩ = some (.int .i64 ((fg2 0 0) o)) := c1
  have hf1 : ∀ o, o < 2 → uu1.frozen? ⟨w.heap.size + 1, o, none⟩ = false := f1
  have hd0 : ∀ o, o < 1 → uu1.cell? ⟨q0, o, none⟩ = some (.int .i64 ((fun _ => 1) o)) := d0
  go_wp2_with fail
  with_reducible refine (S1 _ _ ?_ ?_).mono ?_
  · exact zs
  · exact d0 0 (by omega)
  rintro e v2 ⟨rfl, hb⟩
  clear hc0 hc1 hf1 hd0
  replace c0 := cs_below c0 hb (by omega)
  replace c1 := cs_below c1 hb (by omega)
  replace f1 := fs_below f1 hb (by omega)
  replace d0 := cs_below d0 hb (by omega)
  replace HBa := HBa.trans (hb.mono (by first | omega | exact HBa.size))
  replace zs := Nat.lt_of_lt_of_le zs hb.size
  clear hb
  have hc0 : ∀ o, o < 2 → v2.cell? ⟨w.heap.size, o, none⟩ = some (.int .i64 ((fg2 0 1) o)) := c0
  have hc1 : ∀ o, o < 2 → v2.cell? ⟨w.heap.size + 1, o, none⟩ = some (.int .i64 ((fg2 0 0) o)) := c1
  have hf1 : ∀ o, o < 2 → v2.frozen? ⟨w.heap.size + 1, o, none⟩ = false := f1
  have hd0 : ∀ o, o < 1 → v2.cell? ⟨q0, o, none⟩ = some (.int .i64 ((fun _ => 1) o)) := d0
  go_wp2_with fail
  with_reducible refine (M1 _).mono ?_
  rintro e v3 ⟨rfl, hb⟩
  clear hc0 hc1 hf1 hd0
  replace c0 := cs_below c0 hb (by omega)
  replace c1 := cs_below c1 hb (by omega)
  replace f1 := fs_below f1 hb (by omega)
  replace d0 := cs_below d0 hb (by omega)
  replace HBa := HBa.trans (hb.mono (by first | omega | exact HBa.size))
  replace zs := Nat.lt_of_lt_of_le zs hb.size
  clear hb
  have hc0 : ∀ o, o < 2 → v3.cell? ⟨w.heap.size, o, none⟩ = some (.int .i64 ((fg2 0 1) o)) := c0
  have hc1 : ∀ o, o < 2 → v3.cell? ⟨w.heap.size + 1, o, none⟩ = some (.int .i64 ((fg2 0 0) o)) := c1
  have hf1 : ∀ o, o < 2 → v3.frozen? ⟨w.heap.size + 1, o, none⟩ = false := f1
  have hd0 : ∀ o, o < 1 → v3.cell? ⟨q0, o, none⟩ = some (.int .i64 ((fun _ => 1) o)) := d0
  go_upto_region 4 with fail
  clear hc0 hc1 hf1 hd0
  refine opq (fun wx => wx.cell? ⟨w.heap.size + 1, 0, none⟩ = some (.int .i64 1) ∧ wx.cell? ⟨w.heap.size + 1, 1, none⟩ = some (.int .i64 1) ∧ wx.frozen? ⟨w.heap.size + 1, 0, none⟩ = false ∧ wx.frozen? ⟨w.heap.size + 1, 1, none⟩ = false ∧ wx.cell? ⟨q0, 0, none⟩ = some (.int .i64 1) ∧ Below w.heap.size w wx) ?_ ?_
  · have hd := d0 0 (by omega)
    have hf0 := f1 0 (by omega)
    have hf1 := f1 1 (by omega)
    have hk0 := c1 0 (by omega)
    have hk1 := c1 1 (by omega)
    have hq : (q0 = w.heap.size + 1) = False := eq_false (by omega)
    exact ⟨by simp [go_sem, *], by simp [go_sem, *], by simp [go_sem, *], by simp [go_sem, *], by simp [go_sem, *], by (repeat (first | with_reducible exact HBa | (with_reducible refine bextm ?_ (by first | omega | (simp [ext_size, World.setCell] <;> omega)) _ _) | (with_reducible refine below_drewN ?_ _) | (with_reducible refine Below.drew ?_) | (with_reducible refine Below.alloc ?_ (by first | omega | (simp [ext_size, World.setCell] <;> omega)) _) | (with_reducible refine Below.setCell ?_ (by first | omega | (simp [ext_size, World.setCell] <;> omega)) _)))⟩
  have hq : (q0 = w.heap.size + 1) = False := eq_false (by omega)
  have hq' : (w.heap.size + 1 = q0) = False := eq_false (by omega)
  clear c0 c1 f1 d0 HBa zs
  rintro wy ⟨k0, k1, g0, g1, k2, HBa⟩
  go_region_held3 (fun w' => w'.cell? ⟨w.heap.size + 1, 0, none⟩ = some (.int .i64 1) ∧ w'.cell? ⟨w.heap.size + 1, 1, none⟩ = some (.int .i64 1) ∧ w'.frozen? ⟨w.heap.size + 1, 0, none⟩ = false ∧ w'.frozen? ⟨w.heap.size + 1, 1, none⟩ = false ∧ w'.cell? ⟨q0, 0, none⟩ = some (.int .i64 1)) (simp (maxDischargeDepth := 8) [go_sem, World.cell?_alloc_past, ltk2, ltk3, ltk4, ltk5, ltk6, ltk7, ltk8, ltk9, *]) (fail)
  all_goals (try go_wp2)
  all_goals refine bodyPost_ret (by simp [results, Try.results112, go_sem, ext_cell, World.cell?_alloc_past, ltk2, ltk3, ltk4, ltk5, ltk6, ltk7, ltk8, ltk9, *]; try rfl) rfl ?_
  all_goals exact ⟨rfl, by (repeat (first | with_reducible exact HBa | (with_reducible refine bextm ?_ (by first | omega | (simp [ext_size, World.setCell] <;> omega)) _ _) | (with_reducible refine below_drewN ?_ _) | (with_reducible refine Below.drew ?_) | (with_reducible refine Below.alloc ?_ (by first | omega | (simp [ext_size, World.setCell] <;> omega)) _) | (with_reducible refine Below.setCell ?_ (by first | omega | (simp [ext_size, World.setCell] <;> omega)) _)))⟩
set_option maxRecDepth 100000 in
set_option maxHeartbeats 3200000 in
theorem geo_half_ok (x1 x2 r1 r2 y1 y2 a1 a2 ea u1 u2 : Int) (AD : ∀ w : World, Calls Try.prog 106 #[.agg #[.int .i64 r1, .int .i64 r2], .agg #[.int .i64 x1, .int .i64 x2]] w fun x w' => x = .returned (.tuple #[.agg #[.int .i64 a1, .int .i64 a2], .int .i64 ea]) ∧ Below w.heap.size w w') (DV : ∀ w : World, Calls Try.prog 107 #[.agg #[.int .i64 y1, .int .i64 y2], .agg #[.int .i64 a1, .int .i64 a2]] w fun x w' => x = .returned (.tuple #[.agg #[.int .i64 u1, .int .i64 u2], .int .i64 0]) ∧ Below w.heap.size w w') (IP : ∀ w : World, Calls Try.prog 68 #[.agg #[.int .i64 u1, .int .i64 u2]] w fun x w' => x = .returned (.bool true) ∧ Below w.heap.size w w') (w : World) :
    Calls Try.prog 113 #[.agg #[.int .i64 x1, .int .i64 x2], .agg #[.int .i64 r1, .int .i64 r2], .agg #[.int .i64 y1, .int .i64 y2]] w fun x w' => x = .returned (.tuple #[.agg #[.int .i64 u1, .int .i64 u2], .bool true]) ∧ Below w.heap.size w w' := by
  have dAl := dAl; have dSt := dSt
  go_enter Try.func113, Try.ntmps113
  go_upto_region 1 with fail
  refine opq (fun wx => Cs wx (w.heap.size) 2 (fg2 x1 x2) ∧ Cs wx (w.heap.size + 1) 2 (fg2 r1 r2) ∧ Cs wx (w.heap.size + 1 + 1) 2 (fg2 y1 y2) ∧ Cs wx (w.heap.size + 1 + 1 + 1) 2 (fg2 0 0) ∧ Fs wx (w.heap.size + 1 + 1 + 1) 2 ∧ w.heap.size + 1 + 1 + 1 < wx.heap.size ∧ Below w.heap.size w wx) ?_ ?_
  · exact ⟨cs_alloc _ (cs_alloc _ (cs_alloc _ (cs_new (by simp) (arg2 x1 x2)) (by simp <;> omega)) (by simp <;> omega)) (by simp <;> omega), cs_alloc _ (cs_alloc _ (cs_new (by simp) (arg2 r1 r2)) (by simp <;> omega)) (by simp <;> omega), cs_alloc _ (cs_new (by simp) (arg2 y1 y2)) (by simp <;> omega), cs_new (by simp) (arg2 0 0), fs_new (by simp), by simp, by (repeat (first | with_reducible exact b0 _ | (with_reducible refine bext ?_ _ _) | (with_reducible refine below_drewN ?_ _) | (with_reducible refine Below.drew ?_) | (with_reducible refine bal ?_ _)))⟩
  rintro w0 ⟨c0, c1, c2, c3, f3, zs, HBa⟩
  have ix0 : fg2 x1 x2 0 = x1 := rfl
  have ix1 : fg2 x1 x2 1 = x2 := rfl
  have ir0 : fg2 r1 r2 0 = r1 := rfl
  have ir1 : fg2 r1 r2 1 = r2 := rfl
  have iy0 : fg2 y1 y2 0 = y1 := rfl
  have iy1 : fg2 y1 y2 1 = y2 := rfl
  have ia0 : fg2 a1 a2 0 = a1 := rfl
  have ia1 : fg2 a1 a2 1 = a2 := rfl
  have iz0 : fg2 0 0 0 = 0 := rfl
  have iz1 : fg2 0 0 1 = 0 := rfl
  have hc0 : ∀ o, o < 2 → w0.cell? ⟨w.heap.size, o, none⟩ = some (.int .i64 ((fg2 x1 x2) o)) := c0
  have hc1 : ∀ o, o < 2 → w0.cell? ⟨w.heap.size + 1, o, none⟩ = some (.int .i64 ((fg2 r1 r2) o)) := c1
  have hc2 : ∀ o, o < 2 → w0.cell? ⟨w.heap.size + 1 + 1, o, none⟩ = some (.int .i64 ((fg2 y1 y2) o)) := c2
  have hc3 : ∀ o, o < 2 → w0.cell? ⟨w.heap.size + 1 + 1 + 1, o, none⟩ = some (.int .i64 ((fg2 0 0) o)) := c3
  have hf3 : ∀ o, o < 2 → w0.frozen? ⟨w.heap.size + 1 + 1 + 1, o, none⟩ = false := f3
  go_wp2_with fail
  with_reducible refine (AD _).mono ?_
  rintro e v1 ⟨rfl, hb⟩
  clear hc0 hc1 hc2 hc3 hf3
  replace c0 := cs_below c0 hb (by omega)
  replace c1 := cs_below c1 hb (by omega)
  replace c2 := cs_below c2 hb (by omega)
  replace c3 := cs_below c3 hb (by omega)
  replace f3 := fs_below f3 hb (by omega)
  replace HBa := HBa.trans (hb.mono (by first | omega | exact HBa.size))
  replace zs := Nat.lt_of_lt_of_le zs hb.size
  clear hb
  have hc0 : ∀ o, o < 2 → v1.cell? ⟨w.heap.size, o, none⟩ = some (.int .i64 ((fg2 x1 x2) o)) := c0
  have hc1 : ∀ o, o < 2 → v1.cell? ⟨w.heap.size + 1, o, none⟩ = some (.int .i64 ((fg2 r1 r2) o)) := c1
  have hc2 : ∀ o, o < 2 → v1.cell? ⟨w.heap.size + 1 + 1, o, none⟩ = some (.int .i64 ((fg2 y1 y2) o)) := c2
  have hc3 : ∀ o, o < 2 → v1.cell? ⟨w.heap.size + 1 + 1 + 1, o, none⟩ = some (.int .i64 ((fg2 0 0) o)) := c3
  have hf3 : ∀ o, o < 2 → v1.frozen? ⟨w.heap.size + 1 + 1 + 1, o, none⟩ = false := f3
  go_upto_region 2 with fail
  clear hc0 hc1 hc2 hc3 hf3
  have zb := HBa.size
  refine opq (fun wx => Cs wx (w.heap.size) 2 (fg2 x1 x2) ∧ Cs wx (w.heap.size + 1) 2 (fg2 r1 r2) ∧ Cs wx (w.heap.size + 1 + 1) 2 (fg2 y1 y2) ∧ Cs wx (w.heap.size + 1 + 1 + 1) 2 (fg2 0 0) ∧ Fs wx (w.heap.size + 1 + 1 + 1) 2 ∧ Cs wx (v1.heap.size) 2 (fg2 a1 a2) ∧ v1.heap.size < wx.heap.size ∧ Below w.heap.size w wx) ?_ ?_
  · exact ⟨by (repeat (first | with_reducible exact c0 | with_reducible refine cs_drewN ?_ | with_reducible refine cs_drew ?_ | with_reducible refine cs_ext ?_ (by first | omega | (simp [ext_size, World.setCell] <;> omega)) _ _ | with_reducible refine cs_alloc _ ?_ (by first | omega | (simp [ext_size, World.setCell] <;> omega)) | with_reducible refine cs_up ?_ (by decide) | with_reducible refine cs_set _ ?_ (by first | omega | (simp <;> omega)))), by (repeat (first | with_reducible exact c1 | with_reducible refine cs_drewN ?_ | with_reducible refine cs_drew ?_ | with_reducible refine cs_ext ?_ (by first | omega | (simp [ext_size, World.setCell] <;> omega)) _ _ | with_reducible refine cs_alloc _ ?_ (by first | omega | (simp [ext_size, World.setCell] <;> omega)) | with_reducible refine cs_up ?_ (by decide) | with_reducible refine cs_set _ ?_ (by first | omega | (simp <;> omega)))), by (repeat (first | with_reducible exact c2 | with_reducible refine cs_drewN ?_ | with_reducible refine cs_drew ?_ | with_reducible refine cs_ext ?_ (by first | omega | (simp [ext_size, World.setCell] <;> omega)) _ _ | with_reducible refine cs_alloc _ ?_ (by first | omega | (simp [ext_size, World.setCell] <;> omega)) | with_reducible refine cs_up ?_ (by decide) | with_reducible refine cs_set _ ?_ (by first | omega | (simp <;> omega)))), by (repeat (first | with_reducible exact c3 | with_reducible refine cs_drewN ?_ | with_reducible refine cs_drew ?_ | with_reducible refine cs_ext ?_ (by first | omega | (simp [ext_size, World.setCell] <;> omega)) _ _ | with_reducible refine cs_alloc _ ?_ (by first | omega | (simp [ext_size, World.setCell] <;> omega)) | with_reducible refine cs_up ?_ (by decide) | with_reducible refine cs_set _ ?_ (by first | omega | (simp <;> omega)))), by (repeat (first | with_reducible exact f3 | with_reducible refine fs_drewN ?_ | with_reducible refine fs_drew ?_ | with_reducible refine fs_ext ?_ (by first | omega | (simp [ext_size, World.setCell] <;> omega)) _ _ | with_reducible refine fs_alloc _ ?_ (by first | omega | (simp [ext_size, World.setCell] <;> omega)) | with_reducible refine fs_set _ ?_)), by (intro o ho; rcases (show o = 0 ∨ o = 1 by omega) with rfl | rfl <;> (simp (maxDischargeDepth := 8) [fg2, fg6, go_sem, World.cell?_alloc_past, ltk2, ltk3, ltk4, ltk5])), by (simp [World.setCell] <;> omega), by (repeat (first | with_reducible exact HBa | (with_reducible refine bextm ?_ (by first | omega | (simp [ext_size, World.setCell] <;> omega)) _ _) | (with_reducible refine below_drewN ?_ _) | (with_reducible refine Below.drew ?_) | (with_reducible refine Below.alloc ?_ (by first | omega | (simp [ext_size, World.setCell] <;> omega)) _) | (with_reducible refine Below.setCell ?_ (by first | omega | (simp [ext_size, World.setCell] <;> omega)) _)))⟩
  have yy2 := zs
  clear c0 c1 c2 c3 f3 HBa zb zs
  generalize hq : v1.heap.size = q1 at *
  clear hq
  rintro uu2 ⟨c0, c1, c2, c3, f3, d0, zn, HBa⟩
  have zs := zn
  clear zn
  have hc0 : ∀ o, o < 2 → uu2.cell? ⟨w.heap.size, o, none⟩ = some (.int .i64 ((fg2 x1 x2) o)) := c0
  have hc1 : ∀ o, o < 2 → uu2.cell? ⟨w.heap.size + 1, o, none⟩ = some (.int .i64 ((fg2 r1 r2) o)) := c1
  have hc2 : ∀ o, o < 2 → uu2.cell? ⟨w.heap.size + 1 + 1, o, none⟩ = some (.int .i64 ((fg2 y1 y2) o)) := c2
  have hc3 : ∀ o, o < 2 → uu2.cell? ⟨w.heap.size + 1 + 1 + 1, o, none⟩ = some (.int .i64 ((fg2 0 0) o)) := c3
  have hf3 : ∀ o, o < 2 → uu2.frozen? ⟨w.heap.size + 1 + 1 + 1, o, none⟩ = false := f3
  have hd0 : ∀ o, o < 2 → uu2.cell? ⟨q1, o, none⟩ = some (.int .i64 ((fg2 a1 a2) o)) := d0
  go_wp2_with fail
  with_reducible refine (DV _).mono ?_
  rintro e v3 ⟨rfl, hb⟩
  clear hc0 hc1 hc2 hc3 hf3 hd0
  replace c0 := cs_below c0 hb (by omega)
  replace c1 := cs_below c1 hb (by omega)
  replace c2 := cs_below c2 hb (by omega)
  replace c3 := cs_below c3 hb (by omega)
  replace f3 := fs_below f3 hb (by omega)
  replace d0 := cs_below d0 hb (by omega)
  replace HBa := HBa.trans (hb.mono (by first | omega | exact HBa.size))
  replace zs := Nat.lt_of_lt_of_le zs hb.size
  clear hb
  have hc0 : ∀ o, o < 2 → v3.cell? ⟨w.heap.size, o, none⟩ = some (.int .i64 ((fg2 x1 x2) o)) := c0
  have hc1 : ∀ o, o < 2 → v3.cell? ⟨w.heap.size + 1, o, none⟩ = some (.int .i64 ((fg2 r1 r2) o)) := c1
  have hc2 : ∀ o, o < 2 → v3.cell? ⟨w.heap.size + 1 + 1, o, none⟩ = some (.int .i64 ((fg2 y1 y2) o)) := c2
  have hc3 : ∀ o, o < 2 → v3.cell? ⟨w.heap.size + 1 + 1 + 1, o, none⟩ = some (.int .i64 ((fg2 0 0) o)) := c3
  have hf3 : ∀ o, o < 2 → v3.frozen? ⟨w.heap.size + 1 + 1 + 1, o, none⟩ = false := f3
  have hd0 : ∀ o, o < 2 → v3.cell? ⟨q1, o, none⟩ = some (.int .i64 ((fg2 a1 a2) o)) := d0
  go_upto_region 3 with fail
  clear hc0 hc1 hc2 hc3 hf3 hd0
  refine opq (fun wx => Cs wx (w.heap.size) 2 (fg2 x1 x2) ∧ Cs wx (w.heap.size + 1) 2 (fg2 r1 r2) ∧ Cs wx (w.heap.size + 1 + 1) 2 (fg2 y1 y2) ∧ Cs wx (w.heap.size + 1 + 1 + 1) 2 (fg2 u1 u2) ∧ Fs wx (w.heap.size + 1 + 1 + 1) 2 ∧ Cs wx (q1) 2 (fg2 a1 a2) ∧ q1 < wx.heap.size ∧ Below w.heap.size w wx) ?_ ?_
  · have a0 := c3 0 (by omega)
    have a1 := c3 1 (by omega)
    have zb := HBa.size
    exact ⟨by (repeat (first | with_reducible exact c0 | with_reducible refine cs_drewN ?_ | with_reducible refine cs_drew ?_ | with_reducible refine cs_ext ?_ (by first | omega | (simp [ext_size, World.setCell] <;> omega)) _ _ | with_reducible refine cs_alloc _ ?_ (by first | omega | (simp [ext_size, World.setCell] <;> omega)) | with_reducible refine cs_up ?_ (by decide) | with_reducible refine cs_set _ ?_ (by first | omega | (simp <;> omega)))), by (repeat (first | with_reducible exact c1 | with_reducible refine cs_drewN ?_ | with_reducible refine cs_drew ?_ | with_reducible refine cs_ext ?_ (by first | omega | (simp [ext_size, World.setCell] <;> omega)) _ _ | with_reducible refine cs_alloc _ ?_ (by first | omega | (simp [ext_size, World.setCell] <;> omega)) | with_reducible refine cs_up ?_ (by decide) | with_reducible refine cs_set _ ?_ (by first | omega | (simp <;> omega)))), by (repeat (first | with_reducible exact c2 | with_reducible refine cs_drewN ?_ | with_reducible refine cs_drew ?_ | with_reducible refine cs_ext ?_ (by first | omega | (simp [ext_size, World.setCell] <;> omega)) _ _ | with_reducible refine cs_alloc _ ?_ (by first | omega | (simp [ext_size, World.setCell] <;> omega)) | with_reducible refine cs_up ?_ (by decide) | with_reducible refine cs_set _ ?_ (by first | omega | (simp <;> omega)))), by (intro o ho; rcases (show o = 0 ∨ o = 1 by omega) with rfl | rfl <;> simp [go_sem, fg2, *]), by (repeat (first | with_reducible exact f3 | with_reducible refine fs_drewN ?_ | with_reducible refine fs_drew ?_ | with_reducible refine fs_ext ?_ (by first | omega | (simp [ext_size, World.setCell] <;> omega)) _ _ | with_reducible refine fs_alloc _ ?_ (by first | omega | (simp [ext_size, World.setCell] <;> omega)) | with_reducible refine fs_set _ ?_)), by (repeat (first | with_reducible exact d0 | with_reducible refine cs_drewN ?_ | with_reducible refine cs_drew ?_ | with_reducible refine cs_ext ?_ (by first | omega | (simp [ext_size, World.setCell] <;> omega)) _ _ | with_reducible refine cs_alloc _ ?_ (by first | omega | (simp [ext_size, World.setCell] <;> omega)) | with_reducible refine cs_up ?_ (by decide) | with_reducible refine cs_set _ ?_ (by first | omega | (simp <;> omega)))), by (simp [World.setCell] <;> omega), by (repeat (first | with_reducible exact HBa | (with_reducible refine bextm ?_ (by first | omega | (simp [ext_size, World.setCell] <;> omega)) _ _) | (with_reducible refine below_drewN ?_ _) | (with_reducible refine Below.drew ?_) | (with_reducible refine Below.alloc ?_ (by first | omega | (simp [ext_size, World.setCell] <;> omega)) _) | (with_reducible refine Below.setCell ?_ (by first | omega | (simp [ext_size, World.setCell] <;> omega)) _)))⟩
  clear c0 c1 c2 c3 f3 d0 zs HBa
  rintro uu4 ⟨c0, c1, c2, c3, f3, d0, zs, HBa⟩
  clear c0
  clear c1
  clear c2
  clear d0
  have iu0 : fg2 u1 u2 0 = u1 := rfl
  have iu1 : fg2 u1 u2 1 = u2 := rfl
  refine opq (fun wx => wx.cell? ⟨w.heap.size + 1 + 1 + 1, 0, none⟩ = some (.int .i64 (u1)) ∧ wx.cell? ⟨w.heap.size + 1 + 1 + 1, 1, none⟩ = some (.int .i64 (u2)) ∧ wx.frozen? ⟨w.heap.size + 1 + 1 + 1, 0, none⟩ = false ∧ wx.frozen? ⟨w.heap.size + 1 + 1 + 1, 1, none⟩ = false ∧ q1 < wx.heap.size ∧ Below w.heap.size w wx) ?_ ?_
  · have h_c30 := c3 0 (by omega)
    have h_c31 := c3 1 (by omega)
    have h_f30 := f3 0 (by omega)
    have h_f31 := f3 1 (by omega)
    exact ⟨h_c30, h_c31, h_f30, h_f31, zs, HBa⟩
  clear c3 f3 HBa zs
  rintro wy ⟨k0, k1, k2, k3, zs, HBa⟩
  have zr0 : w.heap.size + 1 + 1 + 1 < wy.heap.size := by omega
  have dAl := dAl; have dSt := dSt; have xC := ext_cell; have xF := ext_frozen; have xS := ext_set; have xN := ext_drewN; have xD := ext_drew; have xL := ext_lt; have xE := ext_ne; have xG := ext_nr; have xX := ext_ext; have xL1 := ext_lt1; have xL2 := ext_lt2; have xL3 := ext_lt3; have xM0 := ext_le0; have xM1 := ext_le1; have xM2 := ext_le2
  have dz1 := dzA; have dz2 := dzB
  have zw0 : w.heap.size ≤ w.heap.size + 1 + 1 + 1 := by omega
  generalize hgr0 : w.heap.size + 1 + 1 + 1 = gr0 at *
  clear hgr0
  go_region_held3 (fun w' => w'.cell? ⟨gr0, 0, none⟩ = some (.int .i64 (u1)) ∧ w'.cell? ⟨gr0, 1, none⟩ = some (.int .i64 (u2)) ∧ w'.frozen? ⟨gr0, 0, none⟩ = false ∧ w'.frozen? ⟨gr0, 1, none⟩ = false) (simp (maxDischargeDepth := 8) [go_sem, World.cell?_alloc_past, ltk2, ltk3, ltk4, ltk5, ltk6, ltk7, ltk8, ltk9, *])
    ((go_at_call 68; with_reducible refine (IP _).mono ?_; rintro e w' ⟨rfl, hb⟩; obtain ⟨l9, d9, rfl⟩ := toExt hb; clear hb))
  all_goals (try go_wp2)
  all_goals refine bodyPost_ret (by simp [results, Try.results113, go_sem, ext_cell, World.cell?_alloc_past, ltk2, ltk3, ltk4, ltk5, ltk6, ltk7, ltk8, ltk9, *]; try rfl) rfl ?_
  all_goals exact ⟨rfl, by (repeat (first | with_reducible exact HBa | (with_reducible refine bextm ?_ (by first | omega | (simp [ext_size, World.setCell] <;> omega)) _ _) | (with_reducible refine below_drewN ?_ _) | (with_reducible refine Below.drew ?_) | (with_reducible refine Below.alloc ?_ (by first | omega | (simp [ext_size, World.setCell] <;> omega)) _) | (with_reducible refine Below.setCell ?_ (by first | omega | (simp [ext_size, World.setCell] <;> omega)) _)))⟩
set_option maxRecDepth 100000 in
set_option maxHeartbeats 3200000 in
theorem geo_half_no (x1 x2 r1 r2 y1 y2 a1 a2 ea u1 u2 : Int) (AD : ∀ w : World, Calls Try.prog 106 #[.agg #[.int .i64 r1, .int .i64 r2], .agg #[.int .i64 x1, .int .i64 x2]] w fun x w' => x = .returned (.tuple #[.agg #[.int .i64 a1, .int .i64 a2], .int .i64 ea]) ∧ Below w.heap.size w w') (DV : ∀ w : World, Calls Try.prog 107 #[.agg #[.int .i64 y1, .int .i64 y2], .agg #[.int .i64 a1, .int .i64 a2]] w fun x w' => x = .returned (.tuple #[.agg #[.int .i64 u1, .int .i64 u2], .int .i64 18]) ∧ Below w.heap.size w w') (w : World) :
    Calls Try.prog 113 #[.agg #[.int .i64 x1, .int .i64 x2], .agg #[.int .i64 r1, .int .i64 r2], .agg #[.int .i64 y1, .int .i64 y2]] w fun x w' => x = .returned (.tuple #[.agg #[.int .i64 u1, .int .i64 u2], .bool false]) ∧ Below w.heap.size w w' := by
  have dAl := dAl; have dSt := dSt
  go_enter Try.func113, Try.ntmps113
  go_upto_region 1 with fail
  refine opq (fun wx => Cs wx (w.heap.size) 2 (fg2 x1 x2) ∧ Cs wx (w.heap.size + 1) 2 (fg2 r1 r2) ∧ Cs wx (w.heap.size + 1 + 1) 2 (fg2 y1 y2) ∧ Cs wx (w.heap.size + 1 + 1 + 1) 2 (fg2 0 0) ∧ Fs wx (w.heap.size + 1 + 1 + 1) 2 ∧ w.heap.size + 1 + 1 + 1 < wx.heap.size ∧ Below w.heap.size w wx) ?_ ?_
  · exact ⟨cs_alloc _ (cs_alloc _ (cs_alloc _ (cs_new (by simp) (arg2 x1 x2)) (by simp <;> omega)) (by simp <;> omega)) (by simp <;> omega), cs_alloc _ (cs_alloc _ (cs_new (by simp) (arg2 r1 r2)) (by simp <;> omega)) (by simp <;> omega), cs_alloc _ (cs_new (by simp) (arg2 y1 y2)) (by simp <;> omega), cs_new (by simp) (arg2 0 0), fs_new (by simp), by simp, by (repeat (first | with_reducible exact b0 _ | (with_reducible refine bext ?_ _ _) | (with_reducible refine below_drewN ?_ _) | (with_reducible refine Below.drew ?_) | (with_reducible refine bal ?_ _)))⟩
  rintro w0 ⟨c0, c1, c2, c3, f3, zs, HBa⟩
  have ix0 : fg2 x1 x2 0 = x1 := rfl
  have ix1 : fg2 x1 x2 1 = x2 := rfl
  have ir0 : fg2 r1 r2 0 = r1 := rfl
  have ir1 : fg2 r1 r2 1 = r2 := rfl
  have iy0 : fg2 y1 y2 0 = y1 := rfl
  have iy1 : fg2 y1 y2 1 = y2 := rfl
  have ia0 : fg2 a1 a2 0 = a1 := rfl
  have ia1 : fg2 a1 a2 1 = a2 := rfl
  have iz0 : fg2 0 0 0 = 0 := rfl
  have iz1 : fg2 0 0 1 = 0 := rfl
  have hc0 : ∀ o, o < 2 → w0.cell? ⟨w.heap.size, o, none⟩ = some (.int .i64 ((fg2 x1 x2) o)) := c0
  have hc1 : ∀ o, o < 2 → w0.cell? ⟨w.heap.size + 1, o, none⟩ = some (.int .i64 ((fg2 r1 r2) o)) := c1
  have hc2 : ∀ o, o < 2 → w0.cell? ⟨w.heap.size + 1 + 1, o, none⟩ = some (.int .i64 ((fg2 y1 y2) o)) := c2
  have hc3 : ∀ o, o < 2 → w0.cell? ⟨w.heap.size + 1 + 1 + 1, o, none⟩ = some (.int .i64 ((fg2 0 0) o)) := c3
  have hf3 : ∀ o, o < 2 → w0.frozen? ⟨w.heap.size + 1 + 1 + 1, o, none⟩ = false := f3
  go_wp2_with fail
  with_reducible refine (AD _).mono ?_
  rintro e v1 ⟨rfl, hb⟩
  clear hc0 hc1 hc2 hc3 hf3
  replace c0 := cs_below c0 hb (by omega)
  replace c1 := cs_below c1 hb (by omega)
  replace c2 := cs_below c2 hb (by omega)
  replace c3 := cs_below c3 hb (by omega)
  replace f3 := fs_below f3 hb (by omega)
  replace HBa := HBa.trans (hb.mono (by first | omega | exact HBa.size))
  replace zs := Nat.lt_of_lt_of_le zs hb.size
  clear hb
  have hc0 : ∀ o, o < 2 → v1.cell? ⟨w.heap.size, o, none⟩ = some (.int .i64 ((fg2 x1 x2) o)) := c0
  have hc1 : ∀ o, o < 2 → v1.cell? ⟨w.heap.size + 1, o, none⟩ = some (.int .i64 ((fg2 r1 r2) o)) := c1
  have hc2 : ∀ o, o < 2 → v1.cell? ⟨w.heap.size + 1 + 1, o, none⟩ = some (.int .i64 ((fg2 y1 y2) o)) := c2
  have hc3 : ∀ o, o < 2 → v1.cell? ⟨w.heap.size + 1 + 1 + 1, o, none⟩ = some (.int .i64 ((fg2 0 0) o)) := c3
  have hf3 : ∀ o, o < 2 → v1.frozen? ⟨w.heap.size + 1 + 1 + 1, o, none⟩ = false := f3
  go_upto_region 2 with fail
  clear hc0 hc1 hc2 hc3 hf3
  have zb := HBa.size
  refine opq (fun wx => Cs wx (w.heap.size) 2 (fg2 x1 x2) ∧ Cs wx (w.heap.size + 1) 2 (fg2 r1 r2) ∧ Cs wx (w.heap.size + 1 + 1) 2 (fg2 y1 y2) ∧ Cs wx (w.heap.size + 1 + 1 + 1) 2 (fg2 0 0) ∧ Fs wx (w.heap.size + 1 + 1 + 1) 2 ∧ Cs wx (v1.heap.size) 2 (fg2 a1 a2) ∧ v1.heap.size < wx.heap.size ∧ Below w.heap.size w wx) ?_ ?_
  · exact ⟨by (repeat (first | with_reducible exact c0 | with_reducible refine cs_drewN ?_ | with_reducible refine cs_drew ?_ | with_reducible refine cs_ext ?_ (by first | omega | (simp [ext_size, World.setCell] <;> omega)) _ _ | with_reducible refine cs_alloc _ ?_ (by first | omega | (simp [ext_size, World.setCell] <;> omega)) | with_reducible refine cs_up ?_ (by decide) | with_reducible refine cs_set _ ?_ (by first | omega | (simp <;> omega)))), by (repeat (first | with_reducible exact c1 | with_reducible refine cs_drewN ?_ | with_reducible refine cs_drew ?_ | with_reducible refine cs_ext ?_ (by first | omega | (simp [ext_size, World.setCell] <;> omega)) _ _ | with_reducible refine cs_alloc _ ?_ (by first | omega | (simp [ext_size, World.setCell] <;> omega)) | with_reducible refine cs_up ?_ (by decide) | with_reducible refine cs_set _ ?_ (by first | omega | (simp <;> omega)))), by (repeat (first | with_reducible exact c2 | with_reducible refine cs_drewN ?_ | with_reducible refine cs_drew ?_ | with_reducible refine cs_ext ?_ (by first | omega | (simp [ext_size, World.setCell] <;> omega)) _ _ | with_reducible refine cs_alloc _ ?_ (by first | omega | (simp [ext_size, World.setCell] <;> omega)) | with_reducible refine cs_up ?_ (by decide) | with_reducible refine cs_set _ ?_ (by first | omega | (simp <;> omega)))), by (repeat (first | with_reducible exact c3 | with_reducible refine cs_drewN ?_ | with_reducible refine cs_drew ?_ | with_reducible refine cs_ext ?_ (by first | omega | (simp [ext_size, World.setCell] <;> omega)) _ _ | with_reducible refine cs_alloc _ ?_ (by first | omega | (simp [ext_size, World.setCell] <;> omega)) | with_reducible refine cs_up ?_ (by decide) | with_reducible refine cs_set _ ?_ (by first | omega | (simp <;> omega)))), by (repeat (first | with_reducible exact f3 | with_reducible refine fs_drewN ?_ | with_reducible refine fs_drew ?_ | with_reducible refine fs_ext ?_ (by first | omega | (simp [ext_size, World.setCell] <;> omega)) _ _ | with_reducible refine fs_alloc _ ?_ (by first | omega | (simp [ext_size, World.setCell] <;> omega)) | with_reducible refine fs_set _ ?_)), by (intro o ho; rcases (show o = 0 ∨ o = 1 by omega) with rfl | rfl <;> (simp (maxDischargeDepth := 8) [fg2, fg6, go_sem, World.cell?_alloc_past, ltk2, ltk3, ltk4, ltk5])), by (simp [World.setCell] <;> omega), by (repeat (first | with_reducible exact HBa | (with_reducible refine bextm ?_ (by first | omega | (simp [ext_size, World.setCell] <;> omega)) _ _) | (with_reducible refine below_drewN ?_ _) | (with_reducible refine Below.drew ?_) | (with_reducible refine Below.alloc ?_ (by first | omega | (simp [ext_size, World.setCell] <;> omega)) _) | (with_reducible refine Below.setCell ?_ (by first | omega | (simp [ext_size, World.setCell] <;> omega)) _)))⟩
  have yy2 := zs
  clear c0 c1 c2 c3 f3 HBa zb zs
  generalize hq : v1.heap.size = q1 at *
  clear hq
  rintro uu2 ⟨c0, c1, c2, c3, f3, d0, zn, HBa⟩
  have zs := zn
  clear zn
  have hc0 : ∀ o, o < 2 → uu2.cell? ⟨w.heap.size, o, none⟩ = some (.int .i64 ((fg2 x1 x2) o)) := c0
  have hc1 : ∀ o, o < 2 → uu2.cell? ⟨w.heap.size + 1, o, none⟩ = some (.int .i64 ((fg2 r1 r2) o)) := c1
  have hc2 : ∀ o, o < 2 → uu2.cell? ⟨w.heap.size + 1 + 1, o, none⟩ = some (.int .i64 ((fg2 y1 y2) o)) := c2
  have hc3 : ∀ o, o < 2 → uu2.cell? ⟨w.heap.size + 1 + 1 + 1, o, none⟩ = some (.int .i64 ((fg2 0 0) o)) := c3
  have hf3 : ∀ o, o < 2 → uu2.frozen? ⟨w.heap.size + 1 + 1 + 1, o, none⟩ = false := f3
  have hd0 : ∀ o, o < 2 → uu2.cell? ⟨q1, o, none⟩ = some (.int .i64 ((fg2 a1 a2) o)) := d0
  go_wp2_with fail
  with_reducible refine (DV _).mono ?_
  rintro e v3 ⟨rfl, hb⟩
  clear hc0 hc1 hc2 hc3 hf3 hd0
  replace c0 := cs_below c0 hb (by omega)
  replace c1 := cs_below c1 hb (by omega)
  replace c2 := cs_below c2 hb (by omega)
  replace c3 := cs_below c3 hb (by omega)
  replace f3 := fs_below f3 hb (by omega)
  replace d0 := cs_below d0 hb (by omega)
  replace HBa := HBa.trans (hb.mono (by first | omega | exact HBa.size))
  replace zs := Nat.lt_of_lt_of_le zs hb.size
  clear hb
  have hc0 : ∀ o, o < 2 → v3.cell? ⟨w.heap.size, o, none⟩ = some (.int .i64 ((fg2 x1 x2) o)) := c0
  have hc1 : ∀ o, o < 2 → v3.cell? ⟨w.heap.size + 1, o, none⟩ = some (.int .i64 ((fg2 r1 r2) o)) := c1
  have hc2 : ∀ o, o < 2 → v3.cell? ⟨w.heap.size + 1 + 1, o, none⟩ = some (.int .i64 ((fg2 y1 y2) o)) := c2
  have hc3 : ∀ o, o < 2 → v3.cell? ⟨w.heap.size + 1 + 1 + 1, o, none⟩ = some (.int .i64 ((fg2 0 0) o)) := c3
  have hf3 : ∀ o, o < 2 → v3.frozen? ⟨w.heap.size + 1 + 1 + 1, o, none⟩ = false := f3
  have hd0 : ∀ o, o < 2 → v3.cell? ⟨q1, o, none⟩ = some (.int .i64 ((fg2 a1 a2) o)) := d0
  go_upto_region 3 with fail
  clear hc0 hc1 hc2 hc3 hf3 hd0
  refine opq (fun wx => Cs wx (w.heap.size) 2 (fg2 x1 x2) ∧ Cs wx (w.heap.size + 1) 2 (fg2 r1 r2) ∧ Cs wx (w.heap.size + 1 + 1) 2 (fg2 y1 y2) ∧ Cs wx (w.heap.size + 1 + 1 + 1) 2 (fg2 u1 u2) ∧ Fs wx (w.heap.size + 1 + 1 + 1) 2 ∧ Cs wx (q1) 2 (fg2 a1 a2) ∧ q1 < wx.heap.size ∧ Below w.heap.size w wx) ?_ ?_
  · have a0 := c3 0 (by omega)
    have a1 := c3 1 (by omega)
    have zb := HBa.size
    exact ⟨by (repeat (first | with_reducible exact c0 | with_reducible refine cs_drewN ?_ | with_reducible refine cs_drew ?_ | with_reducible refine cs_ext ?_ (by first | omega | (simp [ext_size, World.setCell] <;> omega)) _ _ | with_reducible refine cs_alloc _ ?_ (by first | omega | (simp [ext_size, World.setCell] <;> omega)) | with_reducible refine cs_up ?_ (by decide) | with_reducible refine cs_set _ ?_ (by first | omega | (simp <;> omega)))), by (repeat (first | with_reducible exact c1 | with_reducible refine cs_drewN ?_ | with_reducible refine cs_drew ?_ | with_reducible refine cs_ext ?_ (by first | omega | (simp [ext_size, World.setCell] <;> omega)) _ _ | with_reducible refine cs_alloc _ ?_ (by first | omega | (simp [ext_size, World.setCell] <;> omega)) | with_reducible refine cs_up ?_ (by decide) | with_reducible refine cs_set _ ?_ (by first | omega | (simp <;> omega)))), by (repeat (first | with_reducible exact c2 | with_reducible refine cs_drewN ?_ | with_reducible refine cs_drew ?_ | with_reducible refine cs_ext ?_ (by first | omega | (simp [ext_size, World.setCell] <;> omega)) _ _ | with_reducible refine cs_alloc _ ?_ (by first | omega | (simp [ext_size, World.setCell] <;> omega)) | with_reducible refine cs_up ?_ (by decide) | with_reducible refine cs_set _ ?_ (by first | omega | (simp <;> omega)))), by (intro o ho; rcases (show o = 0 ∨ o = 1 by omega) with rfl | rfl <;> simp [go_sem, fg2, *]), by (repeat (first | with_reducible exact f3 | with_reducible refine fs_drewN ?_ | with_reducible refine fs_drew ?_ | with_reducible refine fs_ext ?_ (by first | omega | (simp [ext_size, World.setCell] <;> omega)) _ _ | with_reducible refine fs_alloc _ ?_ (by first | omega | (simp [ext_size, World.setCell] <;> omega)) | with_reducible refine fs_set _ ?_)), by (repeat (first | with_reducible exact d0 | with_reducible refine cs_drewN ?_ | with_reducible refine cs_drew ?_ | with_reducible refine cs_ext ?_ (by first | omega | (simp [ext_size, World.setCell] <;> omega)) _ _ | with_reducible refine cs_alloc _ ?_ (by first | omega | (simp [ext_size, World.setCell] <;> omega)) | with_reducible refine cs_up ?_ (by decide) | with_reducible refine cs_set _ ?_ (by first | omega | (simp <;> omega)))), by (simp [World.setCell] <;> omega), by (repeat (first | with_reducible exact HBa | (with_reducible refine bextm ?_ (by first | omega | (simp [ext_size, World.setCell] <;> omega)) _ _) | (with_reducible refine below_drewN ?_ _) | (with_reducible refine Below.drew ?_) | (with_reducible refine Below.alloc ?_ (by first | omega | (simp [ext_size, World.setCell] <;> omega)) _) | (with_reducible refine Below.setCell ?_ (by first | omega | (simp [ext_size, World.setCell] <;> omega)) _)))⟩
  clear c0 c1 c2 c3 f3 d0 zs HBa
  rintro uu4 ⟨c0, c1, c2, c3, f3, d0, zs, HBa⟩
  clear c0
  clear c1
  clear c2
  clear d0
  have iu0 : fg2 u1 u2 0 = u1 := rfl
  have iu1 : fg2 u1 u2 1 = u2 := rfl
  have k0 : uu4.cell? ⟨w.heap.size + 1 + 1 + 1, 0, none⟩ = some (.int .i64 u1) := c3 0 (by omega)
  have k1 : uu4.cell? ⟨w.heap.size + 1 + 1 + 1, 1, none⟩ = some (.int .i64 u2) := c3 1 (by omega)
  have g0 := f3 0 (by omega)
  have g1 := f3 1 (by omega)
  refine wp_region_held_drew (S := (fun w' => Cs w' (w.heap.size + 1 + 1 + 1) 2 (fg2 u1 u2) ∧ Below (w.heap.size + 1 + 1 + 1) uu4 w')) (by kernel_rfl) ?_ (fun hHeld => ?_)
  · exact ⟨c3, Below.drew (Below.refl _ _)⟩
  refine take2 0 (.tmp 6) (w.heap.size + 1 + 1 + 1) (fg2 u1 u2) rfl rfl (by kernel_rfl) (by kernel_rfl) (by kernel_rfl) (fun _ _ _ h => h) (by rfl) rfl (fun w k => k.1) (by assumption) ?_
  try simp only [Act.put, List.setIfInBounds_toArray, List.set_cons_zero, List.set_cons_succ, fg2]
  refine wpAnyH_take (i := 1) (oi := _) (v := ?_) rfl (by kernel_rfl) (by kernel_rfl) (by kernel_rfl) (fun _ _ _ h => h) (Or.inl ⟨by rfl, ?_⟩) (by assumption) ?_
  rotate_left
  · (intro w hSw; (try dsimp only at hSw); go_simp; (try with_reducible rfl))
  try simp only [Act.put, List.setIfInBounds_toArray, List.set_cons_zero, List.set_cons_succ, fg2]
  refine wpAnyH_take (i := 2) (oi := _) (v := ?_) rfl (by kernel_rfl) (by kernel_rfl) (by kernel_rfl) (fun _ _ _ h => h) (Or.inl ⟨by rfl, ?_⟩) (by assumption) ?_
  rotate_left
  · (intro w hSw; (try dsimp only at hSw); go_simp; (try with_reducible rfl))
  try simp only [Act.put, List.setIfInBounds_toArray, List.set_cons_zero, List.set_cons_succ, fg2]
  refine wpAnyH_take (i := 3) (oi := _) (v := ?_) rfl (by kernel_rfl) (by kernel_rfl) (by kernel_rfl) (fun _ _ _ h => h) (Or.inl ⟨by rfl, ?_⟩) (by assumption) ?_
  rotate_left
  · (intro w hSw; (try dsimp only at hSw); go_simp; (try with_reducible rfl))
  try simp only [Act.put, List.setIfInBounds_toArray, List.set_cons_zero, List.set_cons_succ, fg2]
  refine wpAnyH_take (i := 4) (oi := _) (v := undef) rfl (by kernel_rfl) (by kernel_rfl) (by kernel_rfl) (fun _ _ _ h => h) (Or.inr ⟨by rfl, rfl⟩) (by assumption) ?_
  try simp only [Act.put, List.setIfInBounds_toArray, List.set_cons_zero, List.set_cons_succ, fg2]
  refine wpAnyH_take (i := 5) (oi := _) (v := undef) rfl (by kernel_rfl) (by kernel_rfl) (by kernel_rfl) (fun _ _ _ h => h) (Or.inr ⟨by rfl, rfl⟩) (by assumption) ?_
  try simp only [Act.put, List.setIfInBounds_toArray, List.set_cons_zero, List.set_cons_succ, fg2]
  refine wpAnyH_ready (rs := [6, 7]) (by kernel_rfl) (by simp) ?_
  refine AllReadyH.cons (o := _) rfl (fun K hK => ?_) ?_
  · go_simp
    refine hK.out _ _ ?_ (fun hHeld2 => ?_)
    · (have hB := And.right hHeld; exact ⟨by (intro o ho; rcases (show o = 0 ∨ o = 1 by omega) with rfl | rfl <;> simp [go_sem, fg2, *]), by (repeat (first | with_reducible exact hB | with_reducible exact Below.refl _ _ | with_reducible refine bextm ?_ (by first | omega | (simp [ext_size, World.setCell] <;> omega)) _ _ | with_reducible refine below_drewN ?_ _ | with_reducible refine Below.drew ?_ | with_reducible refine Below.alloc ?_ (by first | omega | (simp [ext_size, World.setCell] <;> omega)) _ | with_reducible refine Below.setCell ?_ (by first | omega | (simp <;> omega)) _))⟩)
    clear hK K hHeld
    have hHeld := hHeld2
    clear hHeld2
    try simp only [Act.put, List.setIfInBounds_toArray, List.set_cons_zero, List.set_cons_succ, fg2]
    refine wpAnyH_ready (rs := [7]) (by kernel_rfl) (by simp) ?_
    refine AllReadyH.cons (o := _) rfl (fun K hK => ?_) AllReadyH.nil
    go_simp
    refine hK.out _ _ ?_ (fun hHeld2 => ?_)
    · (have hB := And.right hHeld; exact ⟨by (intro o ho; rcases (show o = 0 ∨ o = 1 by omega) with rfl | rfl <;> simp [go_sem, fg2, *]), by (repeat (first | with_reducible exact hB | with_reducible exact Below.refl _ _ | with_reducible refine bextm ?_ (by first | omega | (simp [ext_size, World.setCell] <;> omega)) _ _ | with_reducible refine below_drewN ?_ _ | with_reducible refine Below.drew ?_ | with_reducible refine Below.alloc ?_ (by first | omega | (simp [ext_size, World.setCell] <;> omega)) _ | with_reducible refine Below.setCell ?_ (by first | omega | (simp <;> omega)) _))⟩)
    clear hK K hHeld
    have hHeld := hHeld2
    clear hHeld2
    try simp only [Act.put, List.setIfInBounds_toArray, List.set_cons_zero, List.set_cons_succ, fg2]
    refine wpAnyH_ready (rs := [8]) (by kernel_rfl) (by simp) ?_
    refine AllReadyH.cons (o := _) rfl (fun K hK => ?_) AllReadyH.nil
    go_simp
    refine hK.out _ _ ?_ (fun hHeld2 => ?_)
    · (have hB := And.right hHeld; exact ⟨by (intro o ho; rcases (show o = 0 ∨ o = 1 by omega) with rfl | rfl <;> simp [go_sem, fg2, *]), by (repeat (first | with_reducible exact hB | with_reducible exact Below.refl _ _ | with_reducible refine bextm ?_ (by first | omega | (simp [ext_size, World.setCell] <;> omega)) _ _ | with_reducible refine below_drewN ?_ _ | with_reducible refine Below.drew ?_ | with_reducible refine Below.alloc ?_ (by first | omega | (simp [ext_size, World.setCell] <;> omega)) _ | with_reducible refine Below.setCell ?_ (by first | omega | (simp <;> omega)) _))⟩)
    clear hK K hHeld
    have hHeld := hHeld2
    clear hHeld2
    try simp only [Act.put, List.setIfInBounds_toArray, List.set_cons_zero, List.set_cons_succ, fg2]
    refine wpAnyH_done (by kernel_rfl) ?_ _
    go_wp2
    refine bodyPost_ret (by simp [results, Try.results113, go_sem, ext_cell, World.cell?_alloc_past, ltk2, ltk3, ltk4, ltk5, ltk6, ltk7, ltk8, ltk9, *]; try rfl) rfl ?_
    exact ⟨rfl, HBa.trans (Below.mono (And.right hHeld) (by omega))⟩
  refine AllReadyH.cons (o := _) rfl (fun K hK => ?_) ?_
  · go_simp
    refine hK.out _ _ ?_ (fun hHeld2 => ?_)
    · (have hB := And.right hHeld; exact ⟨by (intro o ho; rcases (show o = 0 ∨ o = 1 by omega) with rfl | rfl <;> simp [go_sem, fg2, *]), by (repeat (first | with_reducible exact hB | with_reducible exact Below.refl _ _ | with_reducible refine bextm ?_ (by first | omega | (simp [ext_size, World.setCell] <;> omega)) _ _ | with_reducible refine below_drewN ?_ _ | with_reducible refine Below.drew ?_ | with_reducible refine Below.alloc ?_ (by first | omega | (simp [ext_size, World.setCell] <;> omega)) _ | with_reducible refine Below.setCell ?_ (by first | omega | (simp <;> omega)) _))⟩)
    clear hK K hHeld
    have hHeld := hHeld2
    clear hHeld2
    try simp only [Act.put, List.setIfInBounds_toArray, List.set_cons_zero, List.set_cons_succ, fg2]
    refine wpAnyH_ready (rs := [6]) (by kernel_rfl) (by simp) ?_
    refine AllReadyH.cons (o := _) rfl (fun K hK => ?_) AllReadyH.nil
    go_simp
    refine hK.out _ _ ?_ (fun hHeld2 => ?_)
    · (have hB := And.right hHeld; exact ⟨by (intro o ho; rcases (show o = 0 ∨ o = 1 by omega) with rfl | rfl <;> simp [go_sem, fg2, *]), by (repeat (first | with_reducible exact hB | with_reducible exact Below.refl _ _ | with_reducible refine bextm ?_ (by first | omega | (simp [ext_size, World.setCell] <;> omega)) _ _ | with_reducible refine below_drewN ?_ _ | with_reducible refine Below.drew ?_ | with_reducible refine Below.alloc ?_ (by first | omega | (simp [ext_size, World.setCell] <;> omega)) _ | with_reducible refine Below.setCell ?_ (by first | omega | (simp <;> omega)) _))⟩)
    clear hK K hHeld
    have hHeld := hHeld2
    clear hHeld2
    try simp only [Act.put, List.setIfInBounds_toArray, List.set_cons_zero, List.set_cons_succ, fg2]
    refine wpAnyH_ready (rs := [8]) (by kernel_rfl) (by simp) ?_
    refine AllReadyH.cons (o := _) rfl (fun K hK => ?_) AllReadyH.nil
    go_simp
    refine hK.out _ _ ?_ (fun hHeld2 => ?_)
    · (have hB := And.right hHeld; exact ⟨by (intro o ho; rcases (show o = 0 ∨ o = 1 by omega) with rfl | rfl <;> simp [go_sem, fg2, *]), by (repeat (first | with_reducible exact hB | with_reducible exact Below.refl _ _ | with_reducible refine bextm ?_ (by first | omega | (simp [ext_size, World.setCell] <;> omega)) _ _ | with_reducible refine below_drewN ?_ _ | with_reducible refine Below.drew ?_ | with_reducible refine Below.alloc ?_ (by first | omega | (simp [ext_size, World.setCell] <;> omega)) _ | with_reducible refine Below.setCell ?_ (by first | omega | (simp <;> omega)) _))⟩)
    clear hK K hHeld
    have hHeld := hHeld2
    clear hHeld2
    try simp only [Act.put, List.setIfInBounds_toArray, List.set_cons_zero, List.set_cons_succ, fg2]
    refine wpAnyH_done (by kernel_rfl) ?_ _
    go_wp2
    refine bodyPost_ret (by simp [results, Try.results113, go_sem, ext_cell, World.cell?_alloc_past, ltk2, ltk3, ltk4, ltk5, ltk6, ltk7, ltk8, ltk9, *]; try rfl) rfl ?_
    exact ⟨rfl, HBa.trans (Below.mono (And.right hHeld) (by omega))⟩
  exact AllReadyH.nil
theorem take2at {ops : Array Oper} {Q : Exit → Act → World → Prop} {md : Region.Mode} {S : World → Prop} {fuel : Nat} {listed : Array Bool} {a : Act} {w : World} (i : Nat) {oi : Oper} (x : Operand) (b k : Nat) (u0 u1 : Int) (hi : ops[i]? = some oi) (ho : oi.op = .load 23 x)
    (hs : Region.noSelect ops = true) (hf : Region.free md ops listed i = true) (hr : (Region.ready md ops listed).contains i = true)
    (hQ : ∀ c a w, Q (.panic c) (a.put oi.dst (.agg #[.int .i64 u0, .int .i64 u1])) w → Q (.panic c) a w) (hw : Region.wanted oi (yielded ops a.tmps) = true) (hx : a.eval x = .pointer (some ⟨b, k, none⟩)) (hc : ∀ w, S w → w.rangeAt b k [.int .i64 u0, .int .i64 u1]) (hS : S w)
    (h : wpAnyH Try.prog md ops Q S fuel (listed.setIfInBounds i true) (a.put oi.dst (.agg #[.int .i64 u0, .int .i64 u1])) w) : wpAnyH Try.prog md ops Q S (fuel + 1) listed a w :=
  wpAnyH_take hi hs hf hr hQ (yieldsIf_load_mid hw 23 x ho b k hx [.int .i64 u0, .int .i64 u1] _ hc Try.underlying23 rfl (by kernel_rfl)) hS h
theorem rg4 {w : World} {b : Nat} {x y z u : Int} (h : Cs w b 6 (fg6 x y z u 0 1)) : w.rangeAt b 4 [.int .i64 0, .int .i64 1] := by
  intro j v hv
  have hj : j < 2 := by
    rcases Nat.lt_or_ge j 2 with q | q
    · exact q
    · rw [List.getElem?_eq_none (by simpa using q)] at hv; cases hv
  rcases (show j = 0 ∨ j = 1 by omega) with rfl | rfl
  · rw [← hv]; exact h 4 (by omega)
  · rw [← hv]; exact h 5 (by omega)
set_option maxRecDepth 100000 in
set_option maxHeartbeats 3200000 in
theorem arg6 (a b c d e f : Int) : ∀ o, o < 6 → (#[Value.int .i64 a, Value.int .i64 b, Value.int .i64 c, Value.int .i64 d, Value.int .i64 e, Value.int .i64 f] : Array Value)[o]? = some (.int .i64 (fg6 a b c d e f o)) := by
  intro o ho
  rcases (show o = 0 ∨ o = 1 ∨ o = 2 ∨ o = 3 ∨ o = 4 ∨ o = 5 by omega) with rfl | rfl | rfl | rfl | rfl | rfl <;> rfl
set_option maxRecDepth 100000 in
set_option maxHeartbeats 3200000 in
theorem geo_params (AC : ∀ w : World, Calls Try.prog 112 #[.agg #[.int .i64 0, .int .i64 1]] w fun x w' => x = .returned (.tuple #[.agg #[.int .i64 1, .int .i64 1], .bool true]) ∧ Below w.heap.size w w') (H1 : ∀ w : World, Calls Try.prog 113 #[.agg #[.int .i64 1, .int .i64 1], .agg #[.int .i64 1, .int .i64 1], .agg #[.int .i64 0, .int .i64 1]] w fun x w' => x = .returned (.tuple #[.agg #[.int .i64 0, .int .i64 1], .bool true]) ∧ Below w.heap.size w w') (H2 : ∀ w : World, Calls Try.prog 113 #[.agg #[.int .i64 ((-1)), .int .i64 1], .agg #[.int .i64 1, .int .i64 1], .agg #[.int .i64 0, .int .i64 1]] w fun x w' => x = .returned (.tuple #[.agg #[.int .i64 0, .int .i64 0], .bool false]) ∧ Below w.heap.size w w') (w : World) :
    Calls Try.prog 78 #[.agg #[.int .i64 ((-1)), .int .i64 1, .int .i64 0, .int .i64 1, .int .i64 0, .int .i64 1]] w fun x w' => x = .returned (.tuple #[.agg #[.int .i64 0, .int .i64 1], .agg #[.int .i64 0, .int .i64 0], .bool false]) ∧ Below w.heap.size w w' := by
  have W1 := fun w => geo_whole 1 w
  have dAl := dAl; have dSt := dSt
  go_enter Try.func78, Try.ntmps78
  go_upto_region 1 with fail
  refine opq (fun wx => Cs wx (w.heap.size) 6 (fg6 (-1) 1 0 1 0 1) ∧ Cs wx (w.heap.size + 1) 2 (fg2 0 0) ∧ Fs wx (w.heap.size + 1) 2 ∧ Cs wx (w.heap.size + 1 + 1) 2 (fg2 0 0) ∧ Fs wx (w.heap.size + 1 + 1) 2 ∧ w.heap.size + 1 + 1 < wx.heap.size ∧ Below w.heap.size w wx) ?_ ?_
  · exact ⟨cs_alloc _ (cs_alloc _ (cs_new (by simp) (arg6 _ _ _ _ _ _)) (by simp <;> omega)) (by simp <;> omega), cs_alloc _ (cs_new (by simp) (arg2 0 0)) (by simp <;> omega), fs_alloc _ (fs_new (by simp)) (by simp <;> omega), cs_new (by simp) (arg2 0 0), fs_new (by simp), by simp, by (repeat (first | with_reducible exact b0 _ | (with_reducible refine bext ?_ _ _) | (with_reducible refine below_drewN ?_ _) | (with_reducible refine Below.drew ?_) | (with_reducible refine bal ?_ _)))⟩
  rintro w0 ⟨c0, c1, f1, c2, f2, zs, HBa⟩
  have i0 : fg6 (-1) 1 0 1 0 1 0 = -1 := rfl
  have i1 : fg6 (-1) 1 0 1 0 1 1 = 1 := rfl
  have i2 : fg6 (-1) 1 0 1 0 1 2 = 0 := rfl
  have i3 : fg6 (-1) 1 0 1 0 1 3 = 1 := rfl
  have i4 : fg6 (-1) 1 0 1 0 1 4 = 0 := rfl
  have i5 : fg6 (-1) 1 0 1 0 1 5 = 1 := rfl
  have j0 : fg2 0 0 0 = 0 := rfl
  have j1 : fg2 0 0 1 = 0 := rfl
  have j2 : fg2 1 1 0 = 1 := rfl
  have j3 : fg2 1 1 1 = 1 := rfl
  have j4 : fg2 0 1 0 = 0 := rfl
  have j5 : fg2 0 1 1 = 1 := rfl
  have hc0 : ∀ o, o < 6 → w0.cell? ⟨w.heap.size, o, none⟩ = some (.int .i64 ((fg6 (-1) 1 0 1 0 1) o)) := c0
  have hc1 : ∀ o, o < 2 → w0.cell? ⟨w.heap.size + 1, o, none⟩ = some (.int .i64 ((fg2 0 0) o)) := c1
  have hf1 : ∀ o, o < 2 → w0.frozen? ⟨w.heap.size + 1, o, none⟩ = false := f1
  have hc2 : ∀ o, o < 2 → w0.cell? ⟨w.heap.size + 1 + 1, o, none⟩ = some (.int .i64 ((fg2 0 0) o)) := c2
  have hf2 : ∀ o, o < 2 → w0.frozen? ⟨w.heap.size + 1 + 1, o, none⟩ = false := f2
  go_wp2_with fail
  with_reducible refine (AC _).mono ?_
  rintro e v1 ⟨rfl, hb⟩
  clear hc0 hc1 hf1 hc2 hf2
  replace c0 := cs_below c0 hb (by omega)
  replace c1 := cs_below c1 hb (by omega)
  replace f1 := fs_below f1 hb (by omega)
  replace c2 := cs_below c2 hb (by omega)
  replace f2 := fs_below f2 hb (by omega)
  replace HBa := HBa.trans (hb.mono (by first | omega | exact HBa.size))
  replace zs := Nat.lt_of_lt_of_le zs hb.size
  clear hb
  have hc0 : ∀ o, o < 6 → v1.cell? ⟨w.heap.size, o, none⟩ = some (.int .i64 ((fg6 (-1) 1 0 1 0 1) o)) := c0
  have hc1 : ∀ o, o < 2 → v1.cell? ⟨w.heap.size + 1, o, none⟩ = some (.int .i64 ((fg2 0 0) o)) := c1
  have hf1 : ∀ o, o < 2 → v1.frozen? ⟨w.heap.size + 1, o, none⟩ = false := f1
  have hc2 : ∀ o, o < 2 → v1.cell? ⟨w.heap.size + 1 + 1, o, none⟩ = some (.int .i64 ((fg2 0 0) o)) := c2
  have hf2 : ∀ o, o < 2 → v1.frozen? ⟨w.heap.size + 1 + 1, o, none⟩ = false := f2
  go_upto_region 4 with fail
  clear hc0 hc1 hf1 hc2 hf2
  have zb := HBa.size
  refine opq (fun wx => Cs wx (w.heap.size) 6 (fg6 (-1) 1 0 1 0 1) ∧ Cs wx (w.heap.size + 1) 2 (fg2 0 0) ∧ Fs wx (w.heap.size + 1) 2 ∧ Cs wx (w.heap.size + 1 + 1) 2 (fg2 0 0) ∧ Fs wx (w.heap.size + 1 + 1) 2 ∧ Cs wx (v1.heap.size) 2 (fg2 1 1) ∧ v1.heap.size < wx.heap.size ∧ Below w.heap.size w wx) ?_ ?_
  · exact ⟨by (repeat (first | with_reducible exact c0 | with_reducible refine cs_drewN ?_ | with_reducible refine cs_drew ?_ | with_reducible refine cs_ext ?_ (by first | omega | (simp [ext_size, World.setCell] <;> omega)) _ _ | with_reducible refine cs_alloc _ ?_ (by first | omega | (simp [ext_size, World.setCell] <;> omega)) | with_reducible refine cs_up ?_ (by decide) | with_reducible refine cs_set _ ?_ (by first | omega | (simp <;> omega)))), by (repeat (first | with_reducible exact c1 | with_reducible refine cs_drewN ?_ | with_reducible refine cs_drew ?_ | with_reducible refine cs_ext ?_ (by first | omega | (simp [ext_size, World.setCell] <;> omega)) _ _ | with_reducible refine cs_alloc _ ?_ (by first | omega | (simp [ext_size, World.setCell] <;> omega)) | with_reducible refine cs_up ?_ (by decide) | with_reducible refine cs_set _ ?_ (by first | omega | (simp <;> omega)))), by (repeat (first | with_reducible exact f1 | with_reducible refine fs_drewN ?_ | with_reducible refine fs_drew ?_ | with_reducible refine fs_ext ?_ (by first | omega | (simp [ext_size, World.setCell] <;> omega)) _ _ | with_reducible refine fs_alloc _ ?_ (by first | omega | (simp [ext_size, World.setCell] <;> omega)) | with_reducible refine fs_set _ ?_)), by (repeat (first | with_reducible exact c2 | with_reducible refine cs_drewN ?_ | with_reducible refine cs_drew ?_ | with_reducible refine cs_ext ?_ (by first | omega | (simp [ext_size, World.setCell] <;> omega)) _ _ | with_reducible refine cs_alloc _ ?_ (by first | omega | (simp [ext_size, World.setCell] <;> omega)) | with_reducible refine cs_up ?_ (by decide) | with_reducible refine cs_set _ ?_ (by first | omega | (simp <;> omega)))), by (repeat (first | with_reducible exact f2 | with_reducible refine fs_drewN ?_ | with_reducible refine fs_drew ?_ | with_reducible refine fs_ext ?_ (by first | omega | (simp [ext_size, World.setCell] <;> omega)) _ _ | with_reducible refine fs_alloc _ ?_ (by first | omega | (simp [ext_size, World.setCell] <;> omega)) | with_reducible refine fs_set _ ?_)), by (intro o ho; rcases (show o = 0 ∨ o = 1 by omega) with rfl | rfl <;> (simp (maxDischargeDepth := 8) [fg2, fg6, go_sem, World.cell?_alloc_past, ltk2, ltk3, ltk4, ltk5])), by (simp [World.setCell] <;> omega), by (repeat (first | with_reducible exact HBa | (with_reducible refine bextm ?_ (by first | omega | (simp [ext_size, World.setCell] <;> omega)) _ _) | (with_reducible refine below_drewN ?_ _) | (with_reducible refine Below.drew ?_) | (with_reducible refine Below.alloc ?_ (by first | omega | (simp [ext_size, World.setCell] <;> omega)) _) | (with_reducible refine Below.setCell ?_ (by first | omega | (simp [ext_size, World.setCell] <;> omega)) _)))⟩
  have yy2 := zs
  clear c0 c1 f1 c2 f2 HBa zb zs
  generalize hq : v1.heap.size = q1 at *
  clear hq
  rintro uu2 ⟨c0, c1, f1, c2, f2, d0, zn, HBa⟩
  have zs := zn
  clear zn
  have zz : q1 < uu2.heap.size := by omega
  have zs0 : w.heap.size < uu2.heap.size := by omega
  have zs1 : w.heap.size + 1 < uu2.heap.size := by omega
  have zs2 : w.heap.size + 1 + 1 < uu2.heap.size := by omega
  have zle : w.heap.size + 1 ≤ uu2.heap.size := by omega
  have nq : (q1 = w.heap.size + 1) = False := eq_false (by omega)
  have nq2 : (w.heap.size + 1 = w.heap.size + 1 + 1) = False := eq_false (by omega)
  refine wp_region_held_drew (S := (fun w' => Cs w' q1 2 (fg2 1 1) ∧ Cs w' (w.heap.size) 6 (fg6 (-1) 1 0 1 0 1) ∧ Cs w' (w.heap.size + 1 + 1) 2 (fg2 0 0) ∧ Fs w' (w.heap.size + 1 + 1) 2 ∧ Below (w.heap.size + 1) uu2 w')) (by kernel_rfl) ?_ (fun hHeld => ?_)
  · exact ⟨d0, c0, c2, f2, Below.drew (Below.refl _ _)⟩
  refine take2 0 (.tmp 5) q1 (fg2 1 1) rfl rfl (by kernel_rfl) (by kernel_rfl) (by kernel_rfl) (fun _ _ _ h => h) (by rfl) rfl (fun w k => k.1) (by assumption) ?_
  try simp only [Act.put, List.setIfInBounds_toArray, List.set_cons_zero, List.set_cons_succ, fg2]
  refine wpAnyH_take (i := 2) (oi := _) (v := ?_) rfl (by kernel_rfl) (by kernel_rfl) (by kernel_rfl) (fun _ _ _ h => h) (Or.inl ⟨by rfl, ?_⟩) (by assumption) ?_
  rotate_left
  · (intro w hSw; (try dsimp only at hSw); go_simp; (try with_reducible rfl))
  try simp only [Act.put, List.setIfInBounds_toArray, List.set_cons_zero, List.set_cons_succ, fg2]
  refine take2at 3 (.tmp 19) w.heap.size 4 0 1 rfl rfl (by kernel_rfl) (by kernel_rfl) (by kernel_rfl) (fun _ _ _ h => h) (by rfl) rfl (fun w k => rg4 k.2.1) (by assumption) ?_
  try simp only [Act.put, List.setIfInBounds_toArray, List.set_cons_zero, List.set_cons_succ, fg2]
  refine wpAnyH_ready (rs := [1]) (by kernel_rfl) (by simp) ?_
  refine AllReadyH.cons (o := _) rfl (fun K hK => ?_) AllReadyH.nil
  go_simp
  with_reducible refine (W1 _).mono ?_
  rintro e y1 ⟨rfl, hb⟩
  have l0 := Nat.lt_of_lt_of_le zz (Below.size (And.right (And.right (And.right (And.right hHeld)))))
  have l1 := Nat.lt_of_lt_of_le zs0 (Below.size (And.right (And.right (And.right (And.right hHeld)))))
  have l2 := Nat.lt_of_lt_of_le zs1 (Below.size (And.right (And.right (And.right (And.right hHeld)))))
  have l3 := Nat.lt_of_lt_of_le zs2 (Below.size (And.right (And.right (And.right (And.right hHeld)))))
  have k1 := cs_below (cs_drew c1) hb zs1
  have k2 := fs_below (fs_drew f1) hb zs1
  replace hHeld : (fun w' => Cs w' q1 2 (fg2 1 1) ∧ Cs w' (w.heap.size) 6 (fg6 (-1) 1 0 1 0 1) ∧ Cs w' (w.heap.size + 1 + 1) 2 (fg2 0 0) ∧ Fs w' (w.heap.size + 1 + 1) 2 ∧ Below (w.heap.size + 1) uu2 w') y1 := ⟨cs_below (And.left hHeld) hb l0, cs_below (And.left (And.right hHeld)) hb l1, cs_below (And.left (And.right (And.right hHeld))) hb l3, fs_below (And.left (And.right (And.right (And.right hHeld)))) hb l3, Below.trans (And.right (And.right (And.right (And.right hHeld)))) (Below.mono hb (Nat.le_of_lt l2))⟩
  clear hb l0 l1 l2 l3
  (try go_wp2_with fail)
  refine hK.out _ _ ?_ (fun hHeld2 => ?_)
  · (have hC1 := And.left hHeld; have hC2 := And.left (And.right hHeld); have hC3 := And.left (And.right (And.right hHeld)); have hF3 := And.left (And.right (And.right (And.right hHeld))); have hB := And.right (And.right (And.right (And.right hHeld))); exact ⟨by (repeat (first | with_reducible exact hC1 | with_reducible refine cs_drewN ?_ | with_reducible refine cs_drew ?_ | with_reducible refine cs_ext ?_ (by first | omega | (simp [ext_size, World.setCell] <;> omega)) _ _ | with_reducible refine cs_alloc _ ?_ (by first | omega | (simp [ext_size, World.setCell] <;> omega)) | with_reducible refine cs_up ?_ (by decide) | with_reducible refine cs_set _ ?_ (by first | omega | (simp <;> omega)))), by (repeat (first | with_reducible exact hC2 | with_reducible refine cs_drewN ?_ | with_reducible refine cs_drew ?_ | with_reducible refine cs_ext ?_ (by first | omega | (simp [ext_size, World.setCell] <;> omega)) _ _ | with_reducible refine cs_alloc _ ?_ (by first | omega | (simp [ext_size, World.setCell] <;> omega)) | with_reducible refine cs_up ?_ (by decide) | with_reducible refine cs_set _ ?_ (by first | omega | (simp <;> omega)))), by (repeat (first | with_reducible exact hC3 | with_reducible refine cs_drewN ?_ | with_reducible refine cs_drew ?_ | with_reducible refine cs_ext ?_ (by first | omega | (simp [ext_size, World.setCell] <;> omega)) _ _ | with_reducible refine cs_alloc _ ?_ (by first | omega | (simp [ext_size, World.setCell] <;> omega)) | with_reducible refine cs_up ?_ (by decide) | with_reducible refine cs_set _ ?_ (by first | omega | (simp <;> omega)))), by (repeat (first | with_reducible exact hF3 | with_reducible refine fs_drewN ?_ | with_reducible refine fs_drew ?_ | with_reducible refine fs_ext ?_ (by first | omega | (simp [ext_size, World.setCell] <;> omega)) _ _ | with_reducible refine fs_alloc _ ?_ (by first | omega | (simp [ext_size, World.setCell] <;> omega)) | with_reducible refine fs_set _ ?_)), by (repeat (first | with_reducible exact hB | with_reducible exact Below.refl _ _ | with_reducible refine bextm ?_ (by first | omega | (simp [ext_size, World.setCell] <;> omega)) _ _ | with_reducible refine below_drewN ?_ _ | with_reducible refine Below.drew ?_ | with_reducible refine Below.alloc ?_ (by first | omega | (simp [ext_size, World.setCell] <;> omega)) _ | with_reducible refine Below.setCell ?_ (by first | omega | (simp <;> omega)) _))⟩)
  clear hK K hHeld
  have hHeld := hHeld2
  clear hHeld2
  try simp only [Act.put, List.setIfInBounds_toArray, List.set_cons_zero, List.set_cons_succ, fg2]
  refine wpAnyH_ready (rs := [4]) (by kernel_rfl) (by simp) ?_
  refine AllReadyH.cons (o := _) rfl (fun K hK => ?_) AllReadyH.nil
  go_simp
  with_reducible refine (H1 _).mono ?_
  rintro e y2 ⟨rfl, hb⟩
  have l0 := Nat.lt_of_lt_of_le zz (Below.size (And.right (And.right (And.right (And.right hHeld)))))
  have l1 := Nat.lt_of_lt_of_le zs0 (Below.size (And.right (And.right (And.right (And.right hHeld)))))
  have l2 := Nat.lt_of_lt_of_le zs1 (Below.size (And.right (And.right (And.right (And.right hHeld)))))
  have l3 := Nat.lt_of_lt_of_le zs2 (Below.size (And.right (And.right (And.right (And.right hHeld)))))
  have hR : ∀ o, o < 2 → y2.cell? ⟨w.heap.size + 1, o, none⟩ = some (.int .i64 (fg2 0 0 o)) := cs_below k1 hb l2
  have hF : ∀ o, o < 2 → y2.frozen? ⟨w.heap.size + 1, o, none⟩ = false := fs_below k2 hb l2
  replace hHeld : (fun w' => Cs w' q1 2 (fg2 1 1) ∧ Cs w' (w.heap.size) 6 (fg6 (-1) 1 0 1 0 1) ∧ Cs w' (w.heap.size + 1 + 1) 2 (fg2 0 0) ∧ Fs w' (w.heap.size + 1 + 1) 2 ∧ Below (w.heap.size + 1) uu2 w') y2 := ⟨cs_below (And.left hHeld) hb l0, cs_below (And.left (And.right hHeld)) hb l1, cs_below (And.left (And.right (And.right hHeld))) hb l3, fs_below (And.left (And.right (And.right (And.right hHeld)))) hb l3, Below.trans (And.right (And.right (And.right (And.right hHeld)))) (Below.mono hb (Nat.le_of_lt l2))⟩
  clear hb l0 l1 l2 l3
  (try go_wp2_with fail)
  refine hK.out _ _ ?_ (fun hHeld2 => ?_)
  · (have hC1 := And.left hHeld; have hC2 := And.left (And.right hHeld); have hC3 := And.left (And.right (And.right hHeld)); have hF3 := And.left (And.right (And.right (And.right hHeld))); have hB := And.right (And.right (And.right (And.right hHeld))); exact ⟨by (repeat (first | with_reducible exact hC1 | with_reducible refine cs_drewN ?_ | with_reducible refine cs_drew ?_ | with_reducible refine cs_ext ?_ (by first | omega | (simp [ext_size, World.setCell] <;> omega)) _ _ | with_reducible refine cs_alloc _ ?_ (by first | omega | (simp [ext_size, World.setCell] <;> omega)) | with_reducible refine cs_up ?_ (by decide) | with_reducible refine cs_set _ ?_ (by first | omega | (simp <;> omega)))), by (repeat (first | with_reducible exact hC2 | with_reducible refine cs_drewN ?_ | with_reducible refine cs_drew ?_ | with_reducible refine cs_ext ?_ (by first | omega | (simp [ext_size, World.setCell] <;> omega)) _ _ | with_reducible refine cs_alloc _ ?_ (by first | omega | (simp [ext_size, World.setCell] <;> omega)) | with_reducible refine cs_up ?_ (by decide) | with_reducible refine cs_set _ ?_ (by first | omega | (simp <;> omega)))), by (repeat (first | with_reducible exact hC3 | with_reducible refine cs_drewN ?_ | with_reducible refine cs_drew ?_ | with_reducible refine cs_ext ?_ (by first | omega | (simp [ext_size, World.setCell] <;> omega)) _ _ | with_reducible refine cs_alloc _ ?_ (by first | omega | (simp [ext_size, World.setCell] <;> omega)) | with_reducible refine cs_up ?_ (by decide) | with_reducible refine cs_set _ ?_ (by first | omega | (simp <;> omega)))), by (repeat (first | with_reducible exact hF3 | with_reducible refine fs_drewN ?_ | with_reducible refine fs_drew ?_ | with_reducible refine fs_ext ?_ (by first | omega | (simp [ext_size, World.setCell] <;> omega)) _ _ | with_reducible refine fs_alloc _ ?_ (by first | omega | (simp [ext_size, World.setCell] <;> omega)) | with_reducible refine fs_set _ ?_)), by (repeat (first | with_reducible exact hB | with_reducible exact Below.refl _ _ | with_reducible refine bextm ?_ (by first | omega | (simp [ext_size, World.setCell] <;> omega)) _ _ | with_reducible refine below_drewN ?_ _ | with_reducible refine Below.drew ?_ | with_reducible refine Below.alloc ?_ (by first | omega | (simp [ext_size, World.setCell] <;> omega)) _ | with_reducible refine Below.setCell ?_ (by first | omega | (simp <;> omega)) _))⟩)
  clear hK K hHeld
  have hHeld := hHeld2
  clear hHeld2
  try simp only [Act.put, List.setIfInBounds_toArray, List.set_cons_zero, List.set_cons_succ, fg2]
  refine wpAnyH_take (i := 5) (oi := _) (v := ?_) rfl (by kernel_rfl) (by kernel_rfl) (by kernel_rfl) (fun _ _ _ h => h) (Or.inl ⟨by rfl, ?_⟩) (by assumption) ?_
  rotate_left
  · (intro w hSw; (try dsimp only at hSw); go_simp; (try with_reducible rfl))
  try simp only [Act.put, List.setIfInBounds_toArray, List.set_cons_zero, List.set_cons_succ, fg2]
  refine wpAnyH_take (i := 6) (oi := _) (v := ?_) rfl (by kernel_rfl) (by kernel_rfl) (by kernel_rfl) (fun _ _ _ h => h) (Or.inl ⟨by rfl, ?_⟩) (by assumption) ?_
  rotate_left
  · (intro w hSw; (try dsimp only at hSw); go_simp; (try with_reducible rfl))
  try simp only [Act.put, List.setIfInBounds_toArray, List.set_cons_zero, List.set_cons_succ, fg2]
  refine wpAnyH_take (i := 7) (oi := _) (v := ?_) rfl (by kernel_rfl) (by kernel_rfl) (by kernel_rfl) (fun _ _ _ h => h) (Or.inl ⟨by rfl, ?_⟩) (by assumption) ?_
  rotate_left
  · (intro w hSw; (try dsimp only at hSw); go_simp; (try with_reducible rfl))
  try simp only [Act.put, List.setIfInBounds_toArray, List.set_cons_zero, List.set_cons_succ, fg2]
  refine wpAnyH_ready (rs := [8]) (by kernel_rfl) (by simp) ?_
  refine AllReadyH.cons (o := _) rfl (fun K hK => ?_) AllReadyH.nil
  go_simp
  refine hK.out _ _ ?_ (fun hHeld2 => ?_)
  · (have hC1 := And.left hHeld; have hC2 := And.left (And.right hHeld); have hC3 := And.left (And.right (And.right hHeld)); have hF3 := And.left (And.right (And.right (And.right hHeld))); have hB := And.right (And.right (And.right (And.right hHeld))); exact ⟨by (repeat (first | with_reducible exact hC1 | with_reducible refine cs_drewN ?_ | with_reducible refine cs_drew ?_ | with_reducible refine cs_ext ?_ (by first | omega | (simp [ext_size, World.setCell] <;> omega)) _ _ | with_reducible refine cs_alloc _ ?_ (by first | omega | (simp [ext_size, World.setCell] <;> omega)) | with_reducible refine cs_up ?_ (by decide) | with_reducible refine cs_set _ ?_ (by first | omega | (simp <;> omega)))), by (repeat (first | with_reducible exact hC2 | with_reducible refine cs_drewN ?_ | with_reducible refine cs_drew ?_ | with_reducible refine cs_ext ?_ (by first | omega | (simp [ext_size, World.setCell] <;> omega)) _ _ | with_reducible refine cs_alloc _ ?_ (by first | omega | (simp [ext_size, World.setCell] <;> omega)) | with_reducible refine cs_up ?_ (by decide) | with_reducible refine cs_set _ ?_ (by first | omega | (simp <;> omega)))), by (repeat (first | with_reducible exact hC3 | with_reducible refine cs_drewN ?_ | with_reducible refine cs_drew ?_ | with_reducible refine cs_ext ?_ (by first | omega | (simp [ext_size, World.setCell] <;> omega)) _ _ | with_reducible refine cs_alloc _ ?_ (by first | omega | (simp [ext_size, World.setCell] <;> omega)) | with_reducible refine cs_up ?_ (by decide) | with_reducible refine cs_set _ ?_ (by first | omega | (simp <;> omega)))), by (repeat (first | with_reducible exact hF3 | with_reducible refine fs_drewN ?_ | with_reducible refine fs_drew ?_ | with_reducible refine fs_ext ?_ (by first | omega | (simp [ext_size, World.setCell] <;> omega)) _ _ | with_reducible refine fs_alloc _ ?_ (by first | omega | (simp [ext_size, World.setCell] <;> omega)) | with_reducible refine fs_set _ ?_)), by (repeat (first | with_reducible exact hB | with_reducible exact Below.refl _ _ | with_reducible refine bextm ?_ (by first | omega | (simp [ext_size, World.setCell] <;> omega)) _ _ | with_reducible refine below_drewN ?_ _ | with_reducible refine Below.drew ?_ | with_reducible refine Below.alloc ?_ (by first | omega | (simp [ext_size, World.setCell] <;> omega)) _ | with_reducible refine Below.setCell ?_ (by first | omega | (simp <;> omega)) _))⟩)
  clear hK K hHeld
  have hHeld := hHeld2
  clear hHeld2
  try simp only [Act.put, List.setIfInBounds_toArray, List.set_cons_zero, List.set_cons_succ, fg2]
  refine wpAnyH_ready (rs := [9]) (by kernel_rfl) (by simp) ?_
  refine AllReadyH.cons (o := _) rfl (fun K hK => ?_) AllReadyH.nil
  go_simp
  refine hK.out _ _ ?_ (fun hHeld2 => ?_)
  · (have hC1 := And.left hHeld; have hC2 := And.left (And.right hHeld); have hC3 := And.left (And.right (And.right hHeld)); have hF3 := And.left (And.right (And.right (And.right hHeld))); have hB := And.right (And.right (And.right (And.right hHeld))); exact ⟨by (repeat (first | with_reducible exact hC1 | with_reducible refine cs_drewN ?_ | with_reducible refine cs_drew ?_ | with_reducible refine cs_ext ?_ (by first | omega | (simp [ext_size, World.setCell] <;> omega)) _ _ | with_reducible refine cs_alloc _ ?_ (by first | omega | (simp [ext_size, World.setCell] <;> omega)) | with_reducible refine cs_up ?_ (by decide) | with_reducible refine cs_set _ ?_ (by first | omega | (simp <;> omega)))), by (repeat (first | with_reducible exact hC2 | with_reducible refine cs_drewN ?_ | with_reducible refine cs_drew ?_ | with_reducible refine cs_ext ?_ (by first | omega | (simp [ext_size, World.setCell] <;> omega)) _ _ | with_reducible refine cs_alloc _ ?_ (by first | omega | (simp [ext_size, World.setCell] <;> omega)) | with_reducible refine cs_up ?_ (by decide) | with_reducible refine cs_set _ ?_ (by first | omega | (simp <;> omega)))), by (repeat (first | with_reducible exact hC3 | with_reducible refine cs_drewN ?_ | with_reducible refine cs_drew ?_ | with_reducible refine cs_ext ?_ (by first | omega | (simp [ext_size, World.setCell] <;> omega)) _ _ | with_reducible refine cs_alloc _ ?_ (by first | omega | (simp [ext_size, World.setCell] <;> omega)) | with_reducible refine cs_up ?_ (by decide) | with_reducible refine cs_set _ ?_ (by first | omega | (simp <;> omega)))), by (repeat (first | with_reducible exact hF3 | with_reducible refine fs_drewN ?_ | with_reducible refine fs_drew ?_ | with_reducible refine fs_ext ?_ (by first | omega | (simp [ext_size, World.setCell] <;> omega)) _ _ | with_reducible refine fs_alloc _ ?_ (by first | omega | (simp [ext_size, World.setCell] <;> omega)) | with_reducible refine fs_set _ ?_)), by (repeat (first | with_reducible exact hB | with_reducible exact Below.refl _ _ | with_reducible refine bextm ?_ (by first | omega | (simp [ext_size, World.setCell] <;> omega)) _ _ | with_reducible refine below_drewN ?_ _ | with_reducible refine Below.drew ?_ | with_reducible refine Below.alloc ?_ (by first | omega | (simp [ext_size, World.setCell] <;> omega)) _ | with_reducible refine Below.setCell ?_ (by first | omega | (simp <;> omega)) _))⟩)
  clear hK K hHeld
  have hHeld := hHeld2
  clear hHeld2
  try simp only [Act.put, List.setIfInBounds_toArray, List.set_cons_zero, List.set_cons_succ, fg2]
  refine wpAnyH_done (by kernel_rfl) ?_ _
  go_upto_region 5 with fail
  refine opq (fun wx => Cs wx q1 2 (fg2 1 1) ∧ Cs wx (w.heap.size) 6 (fg6 (-1) 1 0 1 0 1) ∧ Cs wx (w.heap.size + 1) 2 (fg2 0 1) ∧ Fs wx (w.heap.size + 1) 2 ∧ Cs wx (w.heap.size + 1 + 1) 2 (fg2 0 0) ∧ Fs wx (w.heap.size + 1 + 1) 2 ∧ q1 < wx.heap.size ∧ Below w.heap.size w wx) ?_ ?_
  · have hC1 := And.left hHeld
    have hC2 := And.left (And.right hHeld)
    have hC3 := And.left (And.right (And.right hHeld))
    have hF3 := And.left (And.right (And.right (And.right hHeld)))
    have hB := And.right (And.right (And.right (And.right hHeld)))
    have hr0 := hR 0 (by omega)
    have hr1 := hR 1 (by omega)
    exact ⟨hC1, hC2, by (intro o ho; rcases (show o = 0 ∨ o = 1 by omega) with rfl | rfl <;> simp [go_sem, fg2, *]), fs_set _ (fs_set _ hF), hC3, hF3, Nat.lt_of_lt_of_le zz (Below.size hB), HBa.trans (Below.mono hB (by omega))⟩
  clear d0 c0 c1 f1 c2 f2 HBa zs hHeld hR hF k1 k2 nq nq2
  rintro wz ⟨d0, c0, c1, f1, c2, f2, zs, HBa⟩
  have hd0 : ∀ o, o < 2 → wz.cell? ⟨q1, o, none⟩ = some (.int .i64 ((fg2 1 1) o)) := d0
  have hc0 : ∀ o, o < 6 → wz.cell? ⟨w.heap.size, o, none⟩ = some (.int .i64 ((fg6 (-1) 1 0 1 0 1) o)) := c0
  have hc1 : ∀ o, o < 2 → wz.cell? ⟨w.heap.size + 1, o, none⟩ = some (.int .i64 ((fg2 0 1) o)) := c1
  have hf1 : ∀ o, o < 2 → wz.frozen? ⟨w.heap.size + 1, o, none⟩ = false := f1
  have hc2 : ∀ o, o < 2 → wz.cell? ⟨w.heap.size + 1 + 1, o, none⟩ = some (.int .i64 ((fg2 0 0) o)) := c2
  have hf2 : ∀ o, o < 2 → wz.frozen? ⟨w.heap.size + 1 + 1, o, none⟩ = false := f2
  go_wp2_with fail
  with_reducible refine (H2 _).mono ?_
  rintro e v3 ⟨rfl, hb⟩
  clear hd0 hc0 hc1 hf1 hc2 hf2
  replace d0 := cs_below d0 hb (by omega)
  replace c0 := cs_below c0 hb (by omega)
  replace c1 := cs_below c1 hb (by omega)
  replace f1 := fs_below f1 hb (by omega)
  replace c2 := cs_below c2 hb (by omega)
  replace f2 := fs_below f2 hb (by omega)
  replace HBa := HBa.trans (hb.mono (by first | omega | exact HBa.size))
  replace zs := Nat.lt_of_lt_of_le zs hb.size
  clear hb
  have hd0 : ∀ o, o < 2 → v3.cell? ⟨q1, o, none⟩ = some (.int .i64 ((fg2 1 1) o)) := d0
  have hc0 : ∀ o, o < 6 → v3.cell? ⟨w.heap.size, o, none⟩ = some (.int .i64 ((fg6 (-1) 1 0 1 0 1) o)) := c0
  have hc1 : ∀ o, o < 2 → v3.cell? ⟨w.heap.size + 1, o, none⟩ = some (.int .i64 ((fg2 0 1) o)) := c1
  have hf1 : ∀ o, o < 2 → v3.frozen? ⟨w.heap.size + 1, o, none⟩ = false := f1
  have hc2 : ∀ o, o < 2 → v3.cell? ⟨w.heap.size + 1 + 1, o, none⟩ = some (.int .i64 ((fg2 0 0) o)) := c2
  have hf2 : ∀ o, o < 2 → v3.frozen? ⟨w.heap.size + 1 + 1, o, none⟩ = false := f2
  go_upto_region 8 with fail
  clear hd0 hc0 hc1 hf1 hc2 hf2
  refine opq (fun wx => Cs wx (q1) 2 (fg2 1 1) ∧ Cs wx (w.heap.size) 6 (fg6 (-1) 1 0 1 0 1) ∧ Cs wx (w.heap.size + 1) 2 (fg2 0 1) ∧ Fs wx (w.heap.size + 1) 2 ∧ Cs wx (w.heap.size + 1 + 1) 2 (fg2 0 0) ∧ Fs wx (w.heap.size + 1 + 1) 2 ∧ q1 < wx.heap.size ∧ Below w.heap.size w wx) ?_ ?_
  · have a0 := c2 0 (by omega)
    have a1 := c2 1 (by omega)
    have zb := HBa.size
    exact ⟨by (repeat (first | with_reducible exact d0 | with_reducible refine cs_drewN ?_ | with_reducible refine cs_drew ?_ | with_reducible refine cs_ext ?_ (by first | omega | (simp [ext_size, World.setCell] <;> omega)) _ _ | with_reducible refine cs_alloc _ ?_ (by first | omega | (simp [ext_size, World.setCell] <;> omega)) | with_reducible refine cs_up ?_ (by decide) | with_reducible refine cs_set _ ?_ (by first | omega | (simp <;> omega)))), by (repeat (first | with_reducible exact c0 | with_reducible refine cs_drewN ?_ | with_reducible refine cs_drew ?_ | with_reducible refine cs_ext ?_ (by first | omega | (simp [ext_size, World.setCell] <;> omega)) _ _ | with_reducible refine cs_alloc _ ?_ (by first | omega | (simp [ext_size, World.setCell] <;> omega)) | with_reducible refine cs_up ?_ (by decide) | with_reducible refine cs_set _ ?_ (by first | omega | (simp <;> omega)))), by (repeat (first | with_reducible exact c1 | with_reducible refine cs_drewN ?_ | with_reducible refine cs_drew ?_ | with_reducible refine cs_ext ?_ (by first | omega | (simp [ext_size, World.setCell] <;> omega)) _ _ | with_reducible refine cs_alloc _ ?_ (by first | omega | (simp [ext_size, World.setCell] <;> omega)) | with_reducible refine cs_up ?_ (by decide) | with_reducible refine cs_set _ ?_ (by first | omega | (simp <;> omega)))), by (repeat (first | with_reducible exact f1 | with_reducible refine fs_drewN ?_ | with_reducible refine fs_drew ?_ | with_reducible refine fs_ext ?_ (by first | omega | (simp [ext_size, World.setCell] <;> omega)) _ _ | with_reducible refine fs_alloc _ ?_ (by first | omega | (simp [ext_size, World.setCell] <;> omega)) | with_reducible refine fs_set _ ?_)), by (intro o ho; rcases (show o = 0 ∨ o = 1 by omega) with rfl | rfl <;> simp [go_sem, fg2, *]), by (repeat (first | with_reducible exact f2 | with_reducible refine fs_drewN ?_ | with_reducible refine fs_drew ?_ | with_reducible refine fs_ext ?_ (by first | omega | (simp [ext_size, World.setCell] <;> omega)) _ _ | with_reducible refine fs_alloc _ ?_ (by first | omega | (simp [ext_size, World.setCell] <;> omega)) | with_reducible refine fs_set _ ?_)), by (simp [World.setCell] <;> omega), by (repeat (first | with_reducible exact HBa | (with_reducible refine bextm ?_ (by first | omega | (simp [ext_size, World.setCell] <;> omega)) _ _) | (with_reducible refine below_drewN ?_ _) | (with_reducible refine Below.drew ?_) | (with_reducible refine Below.alloc ?_ (by first | omega | (simp [ext_size, World.setCell] <;> omega)) _) | (with_reducible refine Below.setCell ?_ (by first | omega | (simp [ext_size, World.setCell] <;> omega)) _)))⟩
  clear d0 c0 c1 f1 c2 f2 zs HBa
  rintro uu4 ⟨d0, c0, c1, f1, c2, f2, zs, HBa⟩
  clear d0
  clear c0
  refine opq (fun wx => wx.cell? ⟨w.heap.size + 1, 0, none⟩ = some (.int .i64 (0)) ∧ wx.cell? ⟨w.heap.size + 1, 1, none⟩ = some (.int .i64 (1)) ∧ wx.frozen? ⟨w.heap.size + 1, 0, none⟩ = false ∧ wx.frozen? ⟨w.heap.size + 1, 1, none⟩ = false ∧ wx.cell? ⟨w.heap.size + 1 + 1, 0, none⟩ = some (.int .i64 (0)) ∧ wx.cell? ⟨w.heap.size + 1 + 1, 1, none⟩ = some (.int .i64 (0)) ∧ wx.frozen? ⟨w.heap.size + 1 + 1, 0, none⟩ = false ∧ wx.frozen? ⟨w.heap.size + 1 + 1, 1, none⟩ = false ∧ q1 < wx.heap.size ∧ Below w.heap.size w wx) ?_ ?_
  · have h_c10 := c1 0 (by omega)
    have h_c11 := c1 1 (by omega)
    have h_f10 := f1 0 (by omega)
    have h_f11 := f1 1 (by omega)
    have h_c20 := c2 0 (by omega)
    have h_c21 := c2 1 (by omega)
    have h_f20 := f2 0 (by omega)
    have h_f21 := f2 1 (by omega)
    exact ⟨h_c10, h_c11, h_f10, h_f11, h_c20, h_c21, h_f20, h_f21, zs, HBa⟩
  have n01 : (w.heap.size + 1 = w.heap.size + 1 + 1) = False := eq_false (by omega)
  have n10 : (w.heap.size + 1 + 1 = w.heap.size + 1) = False := eq_false (by omega)
  clear c1 f1 c2 f2 HBa zs
  rintro wy ⟨k0, k1, k2, k3, k4, k5, k6, k7, zs, HBa⟩
  have zr0 : w.heap.size + 1 < wy.heap.size := by omega
  have zr1 : w.heap.size + 1 + 1 < wy.heap.size := by omega
  go_region_held3 (fun w' => w'.cell? ⟨w.heap.size + 1, 0, none⟩ = some (.int .i64 (0)) ∧ w'.cell? ⟨w.heap.size + 1, 1, none⟩ = some (.int .i64 (1)) ∧ w'.frozen? ⟨w.heap.size + 1, 0, none⟩ = false ∧ w'.frozen? ⟨w.heap.size + 1, 1, none⟩ = false ∧ w'.cell? ⟨w.heap.size + 1 + 1, 0, none⟩ = some (.int .i64 (0)) ∧ w'.cell? ⟨w.heap.size + 1 + 1, 1, none⟩ = some (.int .i64 (0)) ∧ w'.frozen? ⟨w.heap.size + 1 + 1, 0, none⟩ = false ∧ w'.frozen? ⟨w.heap.size + 1 + 1, 1, none⟩ = false) (simp (maxDischargeDepth := 8) [go_sem, World.cell?_alloc_past, ltk2, ltk3, ltk4, ltk5, ltk6, ltk7, ltk8, ltk9, *])
    (fail)
  all_goals (try go_wp2)
  all_goals refine bodyPost_ret (by simp [results, Try.results78, go_sem, ext_cell, World.cell?_alloc_past, ltk2, ltk3, ltk4, ltk5, ltk6, ltk7, ltk8, ltk9, *]; try rfl) rfl ?_
  all_goals exact ⟨rfl, by (repeat (first | with_reducible exact HBa | (with_reducible refine bextm ?_ (by first | omega | (simp [ext_size, World.setCell] <;> omega)) _ _) | (with_reducible refine below_drewN ?_ _) | (with_reducible refine Below.drew ?_) | (with_reducible refine Below.alloc ?_ (by first | omega | (simp [ext_size, World.setCell] <;> omega)) _) | (with_reducible refine Below.setCell ?_ (by first | omega | (simp [ext_size, World.setCell] <;> omega)) _)))⟩
end Go.Proofs.Ytdolfdmgdknboaa
