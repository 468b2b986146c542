/-
  Rows and columns of matrices, by the reference.  Vectors: the checks of the reference, the first of three errors, a vector with an error.  The check of a matrix, by the reference.  Flipped matrices, by the reference.
-/
import Derived.Test.YtlijkebdaalldaaKu
import Derived.Test.YtlijkebdaalldaaMA
import Derived.Test.YtlijkebdaalldaaFs2
import Derived.Test.YtlijkebdaalldaaMB
namespace Go.Proofs.Ytlijkebdaalldaa
open Go.RowKit
set_option linter.unusedVariables false
set_option linter.unusedSimpArgs false

set_option maxRecDepth 100000 in
set_option maxHeartbeats 1600000 in
theorem ref2_Row0 (M : Nat → Int) (w : World) :
    Calls Try.prog 54 #[.agg #[.int .i64 (M 0), .int .i64 (M 1), .int .i64 (M 2), .int .i64 (M 3), .int .i64 (M 4), .int .i64 (M 5), .int .i64 (M 6), .int .i64 (M 7), .int .i64 (M 8), .int .i64 (M 9), .int .i64 (M 10), .int .i64 (M 11), .int .i64 (M 12), .int .i64 (M 13), .int .i64 (M 14), .int .i64 (M 15), .int .i64 (M 16), .int .i64 (M 17)], .int .i64 0] w fun x w' => x = .returned (.agg #[.int .i64 (M 0), .int .i64 (M 1), .int .i64 (M 2), .int .i64 (M 3), .int .i64 (M 4), .int .i64 (M 5)]) ∧ Below w.heap.size w w' := by
  have dAl := dAl; have dSt := dSt
  go_enter Try.func54, Try.ntmps54
  go_upto_region 1 with fail
  refine opq (fun wx => Cs wx w.heap.size 18 M ∧ Cs wx (w.heap.size + 1) 6 (fun _ => 0) ∧ Fs wx (w.heap.size + 1) 6 ∧ w.heap.size + 1 < wx.heap.size ∧ Below w.heap.size w wx) ?_ ?_
  · exact ⟨cs_alloc _ (cs_new rfl (arrM M)) (by simp), cs_new (by simp) arr06, fs_new (by simp), by simp, kb⟩
  rintro wa ⟨cM, cR, fR, zs, HBa⟩
  have hM : ∀ o, o < 18 → wa.cell? ⟨w.heap.size, o, none⟩ = some (.int .i64 (M o)) := cM
  have hR : ∀ o, o < 6 → wa.cell? ⟨w.heap.size + 1, o, none⟩ = some (.int .i64 0) := cR
  have hF : ∀ o, o < 6 → wa.frozen? ⟨w.heap.size + 1, o, none⟩ = false := fR
  clear cM cR fR
  go_region_held3 (fun w' => w'.cell? ⟨w.heap.size, 0, none⟩ = some (.int .i64 (M 0)) ∧ w'.cell? ⟨w.heap.size, 1, none⟩ = some (.int .i64 (M 1)) ∧ w'.cell? ⟨w.heap.size, 2, none⟩ = some (.int .i64 (M 2)) ∧ w'.cell? ⟨w.heap.size, 3, none⟩ = some (.int .i64 (M 3)) ∧ w'.cell? ⟨w.heap.size, 4, none⟩ = some (.int .i64 (M 4)) ∧ w'.cell? ⟨w.heap.size, 5, none⟩ = some (.int .i64 (M 5))) (simp (maxDischargeDepth := 8) [go_sem, kp, *]) (fail)
  all_goals (try go_wp2)
  all_goals refine bodyPost_ret (by simp [results, Try.results54, go_sem, ext_cell, kp, *]; try rfl) rfl ?_
  all_goals exact ⟨rfl, kb⟩

set_option maxRecDepth 100000 in
set_option maxHeartbeats 1600000 in
theorem ref2_Row1 (M : Nat → Int) (w : World) :
    Calls Try.prog 54 #[.agg #[.int .i64 (M 0), .int .i64 (M 1), .int .i64 (M 2), .int .i64 (M 3), .int .i64 (M 4), .int .i64 (M 5), .int .i64 (M 6), .int .i64 (M 7), .int .i64 (M 8), .int .i64 (M 9), .int .i64 (M 10), .int .i64 (M 11), .int .i64 (M 12), .int .i64 (M 13), .int .i64 (M 14), .int .i64 (M 15), .int .i64 (M 16), .int .i64 (M 17)], .int .i64 1] w fun x w' => x = .returned (.agg #[.int .i64 (M 6), .int .i64 (M 7), .int .i64 (M 8), .int .i64 (M 9), .int .i64 (M 10), .int .i64 (M 11)]) ∧ Below w.heap.size w w' := by
  have dAl := dAl; have dSt := dSt
  go_enter Try.func54, Try.ntmps54
  go_upto_region 1 with fail
  refine opq (fun wx => Cs wx w.heap.size 18 M ∧ Cs wx (w.heap.size + 1) 6 (fun _ => 0) ∧ Fs wx (w.heap.size + 1) 6 ∧ w.heap.size + 1 < wx.heap.size ∧ Below w.heap.size w wx) ?_ ?_
  · exact ⟨cs_alloc _ (cs_new rfl (arrM M)) (by simp), cs_new (by simp) arr06, fs_new (by simp), by simp, kb⟩
  rintro wa ⟨cM, cR, fR, zs, HBa⟩
  have hM : ∀ o, o < 18 → wa.cell? ⟨w.heap.size, o, none⟩ = some (.int .i64 (M o)) := cM
  have hR : ∀ o, o < 6 → wa.cell? ⟨w.heap.size + 1, o, none⟩ = some (.int .i64 0) := cR
  have hF : ∀ o, o < 6 → wa.frozen? ⟨w.heap.size + 1, o, none⟩ = false := fR
  clear cM cR fR
  go_region_held3 (fun w' => w'.cell? ⟨w.heap.size, 6, none⟩ = some (.int .i64 (M 6)) ∧ w'.cell? ⟨w.heap.size, 7, none⟩ = some (.int .i64 (M 7)) ∧ w'.cell? ⟨w.heap.size, 8, none⟩ = some (.int .i64 (M 8)) ∧ w'.cell? ⟨w.heap.size, 9, none⟩ = some (.int .i64 (M 9)) ∧ w'.cell? ⟨w.heap.size, 10, none⟩ = some (.int .i64 (M 10)) ∧ w'.cell? ⟨w.heap.size, 11, none⟩ = some (.int .i64 (M 11))) (simp (maxDischargeDepth := 8) [go_sem, kp, *]) (fail)
  all_goals (try go_wp2)
  all_goals refine bodyPost_ret (by simp [results, Try.results54, go_sem, ext_cell, kp, *]; try rfl) rfl ?_
  all_goals exact ⟨rfl, kb⟩

set_option maxRecDepth 100000 in
set_option maxHeartbeats 1600000 in
theorem ref2_Row2 (M : Nat → Int) (w : World) :
    Calls Try.prog 54 #[.agg #[.int .i64 (M 0), .int .i64 (M 1), .int .i64 (M 2), .int .i64 (M 3), .int .i64 (M 4), .int .i64 (M 5), .int .i64 (M 6), .int .i64 (M 7), .int .i64 (M 8), .int .i64 (M 9), .int .i64 (M 10), .int .i64 (M 11), .int .i64 (M 12), .int .i64 (M 13), .int .i64 (M 14), .int .i64 (M 15), .int .i64 (M 16), .int .i64 (M 17)], .int .i64 2] w fun x w' => x = .returned (.agg #[.int .i64 (M 12), .int .i64 (M 13), .int .i64 (M 14), .int .i64 (M 15), .int .i64 (M 16), .int .i64 (M 17)]) ∧ Below w.heap.size w w' := by
  have dAl := dAl; have dSt := dSt
  go_enter Try.func54, Try.ntmps54
  go_upto_region 1 with fail
  refine opq (fun wx => Cs wx w.heap.size 18 M ∧ Cs wx (w.heap.size + 1) 6 (fun _ => 0) ∧ Fs wx (w.heap.size + 1) 6 ∧ w.heap.size + 1 < wx.heap.size ∧ Below w.heap.size w wx) ?_ ?_
  · exact ⟨cs_alloc _ (cs_new rfl (arrM M)) (by simp), cs_new (by simp) arr06, fs_new (by simp), by simp, kb⟩
  rintro wa ⟨cM, cR, fR, zs, HBa⟩
  have hM : ∀ o, o < 18 → wa.cell? ⟨w.heap.size, o, none⟩ = some (.int .i64 (M o)) := cM
  have hR : ∀ o, o < 6 → wa.cell? ⟨w.heap.size + 1, o, none⟩ = some (.int .i64 0) := cR
  have hF : ∀ o, o < 6 → wa.frozen? ⟨w.heap.size + 1, o, none⟩ = false := fR
  clear cM cR fR
  go_region_held3 (fun w' => w'.cell? ⟨w.heap.size, 12, none⟩ = some (.int .i64 (M 12)) ∧ w'.cell? ⟨w.heap.size, 13, none⟩ = some (.int .i64 (M 13)) ∧ w'.cell? ⟨w.heap.size, 14, none⟩ = some (.int .i64 (M 14)) ∧ w'.cell? ⟨w.heap.size, 15, none⟩ = some (.int .i64 (M 15)) ∧ w'.cell? ⟨w.heap.size, 16, none⟩ = some (.int .i64 (M 16)) ∧ w'.cell? ⟨w.heap.size, 17, none⟩ = some (.int .i64 (M 17))) (simp (maxDischargeDepth := 8) [go_sem, kp, *]) (fail)
  all_goals (try go_wp2)
  all_goals refine bodyPost_ret (by simp [results, Try.results54, go_sem, ext_cell, kp, *]; try rfl) rfl ?_
  all_goals exact ⟨rfl, kb⟩

set_option maxRecDepth 100000 in
set_option maxHeartbeats 1600000 in
theorem ref2_Col0 (M : Nat → Int) (w : World) :
    Calls Try.prog 57 #[.agg #[.int .i64 (M 0), .int .i64 (M 1), .int .i64 (M 2), .int .i64 (M 3), .int .i64 (M 4), .int .i64 (M 5), .int .i64 (M 6), .int .i64 (M 7), .int .i64 (M 8), .int .i64 (M 9), .int .i64 (M 10), .int .i64 (M 11), .int .i64 (M 12), .int .i64 (M 13), .int .i64 (M 14), .int .i64 (M 15), .int .i64 (M 16), .int .i64 (M 17)], .int .i64 0] w fun x w' => x = .returned (.agg #[.int .i64 (M 0), .int .i64 (M 1), .int .i64 (M 6), .int .i64 (M 7), .int .i64 (M 12), .int .i64 (M 13)]) ∧ Below w.heap.size w w' := by
  have dAl := dAl; have dSt := dSt
  go_enter Try.func57, Try.ntmps57
  go_upto_region 1 with fail
  refine opq (fun wx => Cs wx w.heap.size 18 M ∧ Cs wx (w.heap.size + 1) 6 (fun _ => 0) ∧ Fs wx (w.heap.size + 1) 6 ∧ w.heap.size + 1 < wx.heap.size ∧ Below w.heap.size w wx) ?_ ?_
  · exact ⟨cs_alloc _ (cs_new rfl (arrM M)) (by simp), cs_new (by simp) arr06, fs_new (by simp), by simp, kb⟩
  rintro wa ⟨cM, cR, fR, zs, HBa⟩
  have hM : ∀ o, o < 18 → wa.cell? ⟨w.heap.size, o, none⟩ = some (.int .i64 (M o)) := cM
  have hR : ∀ o, o < 6 → wa.cell? ⟨w.heap.size + 1, o, none⟩ = some (.int .i64 0) := cR
  have hF : ∀ o, o < 6 → wa.frozen? ⟨w.heap.size + 1, o, none⟩ = false := fR
  clear cM cR fR
  go_region_held3 (fun w' => w'.cell? ⟨w.heap.size, 0, none⟩ = some (.int .i64 (M 0)) ∧ w'.cell? ⟨w.heap.size, 1, none⟩ = some (.int .i64 (M 1)) ∧ w'.cell? ⟨w.heap.size, 6, none⟩ = some (.int .i64 (M 6)) ∧ w'.cell? ⟨w.heap.size, 7, none⟩ = some (.int .i64 (M 7)) ∧ w'.cell? ⟨w.heap.size, 12, none⟩ = some (.int .i64 (M 12)) ∧ w'.cell? ⟨w.heap.size, 13, none⟩ = some (.int .i64 (M 13))) (simp (maxDischargeDepth := 8) [go_sem, kp, *]) (fail)
  all_goals (try go_wp2)
  all_goals refine bodyPost_ret (by simp [results, Try.results57, go_sem, ext_cell, kp, *]; try rfl) rfl ?_
  all_goals exact ⟨rfl, kb⟩

set_option maxRecDepth 100000 in
set_option maxHeartbeats 1600000 in
theorem ref2_Col1 (M : Nat → Int) (w : World) :
    Calls Try.prog 57 #[.agg #[.int .i64 (M 0), .int .i64 (M 1), .int .i64 (M 2), .int .i64 (M 3), .int .i64 (M 4), .int .i64 (M 5), .int .i64 (M 6), .int .i64 (M 7), .int .i64 (M 8), .int .i64 (M 9), .int .i64 (M 10), .int .i64 (M 11), .int .i64 (M 12), .int .i64 (M 13), .int .i64 (M 14), .int .i64 (M 15), .int .i64 (M 16), .int .i64 (M 17)], .int .i64 1] w fun x w' => x = .returned (.agg #[.int .i64 (M 2), .int .i64 (M 3), .int .i64 (M 8), .int .i64 (M 9), .int .i64 (M 14), .int .i64 (M 15)]) ∧ Below w.heap.size w w' := by
  have dAl := dAl; have dSt := dSt
  go_enter Try.func57, Try.ntmps57
  go_upto_region 1 with fail
  refine opq (fun wx => Cs wx w.heap.size 18 M ∧ Cs wx (w.heap.size + 1) 6 (fun _ => 0) ∧ Fs wx (w.heap.size + 1) 6 ∧ w.heap.size + 1 < wx.heap.size ∧ Below w.heap.size w wx) ?_ ?_
  · exact ⟨cs_alloc _ (cs_new rfl (arrM M)) (by simp), cs_new (by simp) arr06, fs_new (by simp), by simp, kb⟩
  rintro wa ⟨cM, cR, fR, zs, HBa⟩
  have hM : ∀ o, o < 18 → wa.cell? ⟨w.heap.size, o, none⟩ = some (.int .i64 (M o)) := cM
  have hR : ∀ o, o < 6 → wa.cell? ⟨w.heap.size + 1, o, none⟩ = some (.int .i64 0) := cR
  have hF : ∀ o, o < 6 → wa.frozen? ⟨w.heap.size + 1, o, none⟩ = false := fR
  clear cM cR fR
  go_region_held3 (fun w' => w'.cell? ⟨w.heap.size, 2, none⟩ = some (.int .i64 (M 2)) ∧ w'.cell? ⟨w.heap.size, 3, none⟩ = some (.int .i64 (M 3)) ∧ w'.cell? ⟨w.heap.size, 8, none⟩ = some (.int .i64 (M 8)) ∧ w'.cell? ⟨w.heap.size, 9, none⟩ = some (.int .i64 (M 9)) ∧ w'.cell? ⟨w.heap.size, 14, none⟩ = some (.int .i64 (M 14)) ∧ w'.cell? ⟨w.heap.size, 15, none⟩ = some (.int .i64 (M 15))) (simp (maxDischargeDepth := 8) [go_sem, kp, *]) (fail)
  all_goals (try go_wp2)
  all_goals refine bodyPost_ret (by simp [results, Try.results57, go_sem, ext_cell, kp, *]; try rfl) rfl ?_
  all_goals exact ⟨rfl, kb⟩

set_option maxRecDepth 100000 in
set_option maxHeartbeats 1600000 in
theorem ref2_Col2 (M : Nat → Int) (w : World) :
    Calls Try.prog 57 #[.agg #[.int .i64 (M 0), .int .i64 (M 1), .int .i64 (M 2), .int .i64 (M 3), .int .i64 (M 4), .int .i64 (M 5), .int .i64 (M 6), .int .i64 (M 7), .int .i64 (M 8), .int .i64 (M 9), .int .i64 (M 10), .int .i64 (M 11), .int .i64 (M 12), .int .i64 (M 13), .int .i64 (M 14), .int .i64 (M 15), .int .i64 (M 16), .int .i64 (M 17)], .int .i64 2] w fun x w' => x = .returned (.agg #[.int .i64 (M 4), .int .i64 (M 5), .int .i64 (M 10), .int .i64 (M 11), .int .i64 (M 16), .int .i64 (M 17)]) ∧ Below w.heap.size w w' := by
  have dAl := dAl; have dSt := dSt
  go_enter Try.func57, Try.ntmps57
  go_upto_region 1 with fail
  refine opq (fun wx => Cs wx w.heap.size 18 M ∧ Cs wx (w.heap.size + 1) 6 (fun _ => 0) ∧ Fs wx (w.heap.size + 1) 6 ∧ w.heap.size + 1 < wx.heap.size ∧ Below w.heap.size w wx) ?_ ?_
  · exact ⟨cs_alloc _ (cs_new rfl (arrM M)) (by simp), cs_new (by simp) arr06, fs_new (by simp), by simp, kb⟩
  rintro wa ⟨cM, cR, fR, zs, HBa⟩
  have hM : ∀ o, o < 18 → wa.cell? ⟨w.heap.size, o, none⟩ = some (.int .i64 (M o)) := cM
  have hR : ∀ o, o < 6 → wa.cell? ⟨w.heap.size + 1, o, none⟩ = some (.int .i64 0) := cR
  have hF : ∀ o, o < 6 → wa.frozen? ⟨w.heap.size + 1, o, none⟩ = false := fR
  clear cM cR fR
  go_region_held3 (fun w' => w'.cell? ⟨w.heap.size, 4, none⟩ = some (.int .i64 (M 4)) ∧ w'.cell? ⟨w.heap.size, 5, none⟩ = some (.int .i64 (M 5)) ∧ w'.cell? ⟨w.heap.size, 10, none⟩ = some (.int .i64 (M 10)) ∧ w'.cell? ⟨w.heap.size, 11, none⟩ = some (.int .i64 (M 11)) ∧ w'.cell? ⟨w.heap.size, 16, none⟩ = some (.int .i64 (M 16)) ∧ w'.cell? ⟨w.heap.size, 17, none⟩ = some (.int .i64 (M 17))) (simp (maxDischargeDepth := 8) [go_sem, kp, *]) (fail)
  all_goals (try go_wp2)
  all_goals refine bodyPost_ret (by simp [results, Try.results57, go_sem, ext_cell, kp, *]; try rfl) rfl ?_
  all_goals exact ⟨rfl, kb⟩

end Go.Proofs.Ytlijkebdaalldaa
namespace Go.Proofs.Ytlijkebdaalldaa
open Go.RowKit
set_option linter.unusedVariables false
set_option linter.unusedSimpArgs false

set_option maxHeartbeats 400000 in
theorem ref2_Check (a b c d e f : Int) (h1 : okC a b) (h2 : okC c d) (h3 : okC e f) (w : World) :
    Calls Try.prog 52 #[.agg #[.int .i64 a, .int .i64 b, .int .i64 c, .int .i64 d, .int .i64 e, .int .i64 f]] w fun x w' => x = .returned (.int .i64 (chV a b c d e f)) ∧ Below w.heap.size w w' := by
  have A1 := fun w => ref_Both a b c d h1.1 h1.2.1 h1.2.2.1 h1.2.2.2 h2.1 h2.2.1 h2.2.2.1 h2.2.2.2 w
  have A2 := fun w => ref_Check e f h3.1 h3.2.1 h3.2.2.1 h3.2.2.2 w
  clear h1 h2 h3
  by_cases q : okF a b = true ∧ okF c d = true
  · rw [chk2_ok q.1 q.2] at A1
    by_cases r : okF e f = true
    · rw [chkI, if_pos r] at A2
      rw [show chV a b c d e f = 0 by unfold chV okV; rw [q.1, q.2, r]; rfl]
      clear q r
      have xR := xRul
      go_enter Try.func52, Try.ntmps52
      go_wp2_with fail
      refine (A1 _).mono ?_
      rintro e w1c ⟨rfl, hb1c⟩
      obtain ⟨l1c, d1c, rfl⟩ := toExt hb1c
      clear hb1c
      go_wp2_with fail
      refine (A2 _).mono ?_
      rintro e w2c ⟨rfl, hb2c⟩
      obtain ⟨l2c, d2c, rfl⟩ := toExt hb2c
      clear hb2c
      go_wp2
      go_ret
      exact ⟨rfl, kb⟩
    · rw [chkI, if_neg r] at A2
      rw [show chV a b c d e f = 8 by unfold chV okV; rw [if_neg]; simp; intro _ _; simpa using r]
      clear q r
      have xR := xRul
      go_enter Try.func52, Try.ntmps52
      go_wp2_with fail
      refine (A1 _).mono ?_
      rintro e w3c ⟨rfl, hb3c⟩
      obtain ⟨l3c, d3c, rfl⟩ := toExt hb3c
      clear hb3c
      go_wp2_with fail
      refine (A2 _).mono ?_
      rintro e w4c ⟨rfl, hb4c⟩
      obtain ⟨l4c, d4c, rfl⟩ := toExt hb4c
      clear hb4c
      go_wp2
      go_ret
      exact ⟨rfl, kb⟩
  · rw [show chk2 a b c d = 8 by unfold chk2 chkI; by_cases p : okF a b = true
                                 · rw [if_pos p, if_neg (fun k => q ⟨p, k⟩)]
                                 · rw [if_neg p]] at A1
    rw [show chV a b c d e f = 8 by unfold chV okV; rw [if_neg]; simp; intro p1 p2; exact absurd ⟨p1, p2⟩ q]
    clear q A2
    have xR := xRul
    go_enter Try.func52, Try.ntmps52
    go_wp2_with fail
    refine (A1 _).mono ?_
    rintro e w5c ⟨rfl, hb5c⟩
    obtain ⟨l5c, d5c, rfl⟩ := toExt hb5c
    clear hb5c
    go_wp2
    go_ret
    exact ⟨rfl, kb⟩

set_option maxHeartbeats 400000 in
theorem ref2_Both (a b c d e f g h i j k l : Int) (h1 : okC a b) (h2 : okC c d) (h3 : okC e f) (h4 : okC g h) (h5 : okC i j) (h6 : okC k l) (w : World) :
    Calls Try.prog 75 #[.agg #[.int .i64 a, .int .i64 b, .int .i64 c, .int .i64 d, .int .i64 e, .int .i64 f], .agg #[.int .i64 g, .int .i64 h, .int .i64 i, .int .i64 j, .int .i64 k, .int .i64 l]] w fun x w' => x = .returned (.int .i64 (if okV a b c d e f = true then chV g h i j k l else 8)) ∧ Below w.heap.size w w' := by
  have A1 := fun w => ref2_Check a b c d e f h1 h2 h3 w
  have A2 := fun w => ref2_Check g h i j k l h4 h5 h6 w
  clear h1 h2 h3 h4 h5 h6
  by_cases q : okV a b c d e f = true
  · rw [chV, if_pos q] at A1
    rw [if_pos q]
    generalize chV g h i j k l = E at *
    clear q
    have xR := xRul
    go_enter Try.func75, Try.ntmps75
    go_wp2_with fail
    refine (A1 _).mono ?_
    rintro e w6c ⟨rfl, hb6c⟩
    obtain ⟨l6c, d6c, rfl⟩ := toExt hb6c
    clear hb6c
    go_wp2_with fail
    refine (A2 _).mono ?_
    rintro e w7c ⟨rfl, hb7c⟩
    obtain ⟨l7c, d7c, rfl⟩ := toExt hb7c
    clear hb7c
    go_wp2
    go_ret
    exact ⟨rfl, kb⟩
  · rw [chV, if_neg q] at A1
    rw [if_neg q]
    clear q A2
    have xR := xRul
    go_enter Try.func75, Try.ntmps75
    go_wp2_with fail
    refine (A1 _).mono ?_
    rintro e w8c ⟨rfl, hb8c⟩
    obtain ⟨l8c, d8c, rfl⟩ := toExt hb8c
    clear hb8c
    go_wp2
    go_ret
    exact ⟨rfl, kb⟩

theorem ref2_first (a b c : Int) (w : World) :
    Calls Try.prog 56 #[.int .i64 a, .int .i64 b, .int .i64 c] w fun x w' => x = .returned (.int .i64 (fsI a b c)) ∧ w' = w := by
  by_cases q : a = 0
  · by_cases r : b = 0
    · rw [fsI, if_pos q, if_pos r]
      have q1 : (a == 0) = true := by simp [q]
      have r1 : (b == 0) = true := by simp [r]
      clear q r
      go_enter Try.func56, Try.ntmps56
      go_wp2
      go_ret
      exact ⟨rfl, rfl⟩
    · rw [fsI, if_pos q, if_neg r]
      have q1 : (a == 0) = true := by simp [q]
      have r1 : (b == 0) = false := by simp [r]
      clear q r
      go_enter Try.func56, Try.ntmps56
      go_wp2
      go_ret
      exact ⟨rfl, rfl⟩
  · rw [fsI, if_neg q]
    have q1 : (a == 0) = false := by simp [q]
    clear q
    go_enter Try.func56, Try.ntmps56
    go_wp2
    go_ret
    exact ⟨rfl, rfl⟩

set_option maxHeartbeats 800000 in
theorem ref2_vec (a b c d e f E : Int) (w : World) :
    Calls Try.prog 55 #[.agg #[.int .i64 a, .int .i64 b], .agg #[.int .i64 c, .int .i64 d], .agg #[.int .i64 e, .int .i64 f], .int .i64 E] w fun x w' =>
      x = .returned (.tuple #[.agg #[.int .i64 (vz E a), .int .i64 (vz E b), .int .i64 (vz E c), .int .i64 (vz E d), .int .i64 (vz E e), .int .i64 (vz E f)], .int .i64 E]) ∧ Below w.heap.size w w' := by
  by_cases q : E = 0
  · subst q
    rw [vz0, vz0, vz0, vz0, vz0, vz0]
    have xR := xRul
    go_enter Try.func55, Try.ntmps55
    go_wp2
    refine bodyPost_ret (by simp [results, Try.results55, go_sem, ext_cell, kp, *]; try rfl) rfl ?_
    exact ⟨rfl, kb⟩
  · rw [vzn q, vzn q, vzn q, vzn q, vzn q, vzn q]
    have q1 : (E == 0) = false := by simp [q]
    clear q
    have xR := xRul
    go_enter Try.func55, Try.ntmps55
    go_wp2
    refine bodyPost_ret (by simp [results, Try.results55, go_sem, ext_cell, kp, *]; try rfl) rfl ?_
    exact ⟨rfl, kb⟩
end Go.Proofs.Ytlijkebdaalldaa
namespace Go.Proofs.Ytlijkebdaalldaa
open Go.RowKit
set_option linter.unusedVariables false
set_option linter.unusedSimpArgs false

set_option maxRecDepth 100000 in
set_option maxHeartbeats 3200000 in
theorem ref2_valid3 (M : Nat → Int) (hb : okCM M) (o0 : okV (M 0) (M 1) (M 2) (M 3) (M 4) (M 5) = true) (o1 : okV (M 6) (M 7) (M 8) (M 9) (M 10) (M 11) = true) (o2 : okV (M 12) (M 13) (M 14) (M 15) (M 16) (M 17) = true) (w : World) :
    Calls Try.prog 51 #[.agg #[.int .i64 (M 0), .int .i64 (M 1), .int .i64 (M 2), .int .i64 (M 3), .int .i64 (M 4), .int .i64 (M 5), .int .i64 (M 6), .int .i64 (M 7), .int .i64 (M 8), .int .i64 (M 9), .int .i64 (M 10), .int .i64 (M 11), .int .i64 (M 12), .int .i64 (M 13), .int .i64 (M 14), .int .i64 (M 15), .int .i64 (M 16), .int .i64 (M 17)]] w fun x w' => x = .returned (.int .i64 0) ∧ Below w.heap.size w w' := by
  obtain ⟨⟨p1, p2, p3⟩, ⟨q1, q2, q3⟩, r1, r2, r3⟩ := okCM_row hb
  have R0 := fun w => ref2_Row0 M w
  have K0 := fun w => ref2_Check (M 0) (M 1) (M 2) (M 3) (M 4) (M 5) p1 p2 p3 w
  rw [chV, if_pos o0] at K0
  have R1 := fun w => ref2_Row1 M w
  have K1 := fun w => ref2_Check (M 6) (M 7) (M 8) (M 9) (M 10) (M 11) q1 q2 q3 w
  rw [chV, if_pos o1] at K1
  have R2 := fun w => ref2_Row2 M w
  have K2 := fun w => ref2_Check (M 12) (M 13) (M 14) (M 15) (M 16) (M 17) r1 r2 r3 w
  rw [chV, if_pos o2] at K2
  clear hb p1 p2 p3 q1 q2 q3 r1 r2 r3 o0 o1 o2
  have dAl := dAl; have dSt := dSt
  go_enter Try.func51, Try.ntmps51
  go_upto_region 1 with fail
  refine opq (fun wx => Cs wx w.heap.size 18 M ∧ w.heap.size < wx.heap.size ∧ Below w.heap.size w wx) ?_ ?_
  · exact ⟨cs_new rfl (arrM M), by simp, kb⟩
  rintro wz ⟨cM, zs, HBa⟩
  go_wp2_with fail
  refine wp_loop_rounds 4 ?_
  rw [rounds_succ]
  go_upto_region 4 with fail
  go_step
  refine load18 (.tmp 1) _ M cM rfl rfl rfl ?_
  go_wp2_with fail
  with_reducible refine (R0 _).mono ?_
  rintro e w1 ⟨rfl, hb⟩
  replace cM := cs_below cM hb (by omega)
  replace HBa := HBa.trans (hb.mono (by omega))
  replace zs : w.heap.size < w1.heap.size := Nat.lt_of_lt_of_le zs hb.size
  clear hb R0
  go_wp2_with fail
  with_reducible refine (K0 _).mono ?_
  rintro e w1 ⟨rfl, hb⟩
  replace cM := cs_below cM hb (by omega)
  replace HBa := HBa.trans (hb.mono (by omega))
  replace zs : w.heap.size < w1.heap.size := Nat.lt_of_lt_of_le zs hb.size
  clear hb K0
  go_wp2_with fail
  rw [rounds_succ]
  go_upto_region 4 with fail
  go_step
  refine load18 (.tmp 1) _ M cM rfl rfl rfl ?_
  go_wp2_with fail
  with_reducible refine (R1 _).mono ?_
  rintro e w1 ⟨rfl, hb⟩
  replace cM := cs_below cM hb (by omega)
  replace HBa := HBa.trans (hb.mono (by omega))
  replace zs : w.heap.size < w1.heap.size := Nat.lt_of_lt_of_le zs hb.size
  clear hb R1
  go_wp2_with fail
  with_reducible refine (K1 _).mono ?_
  rintro e w1 ⟨rfl, hb⟩
  replace cM := cs_below cM hb (by omega)
  replace HBa := HBa.trans (hb.mono (by omega))
  replace zs : w.heap.size < w1.heap.size := Nat.lt_of_lt_of_le zs hb.size
  clear hb K1
  go_wp2_with fail
  rw [rounds_succ]
  go_upto_region 4 with fail
  go_step
  refine load18 (.tmp 1) _ M cM rfl rfl rfl ?_
  go_wp2_with fail
  with_reducible refine (R2 _).mono ?_
  rintro e w1 ⟨rfl, hb⟩
  replace cM := cs_below cM hb (by omega)
  replace HBa := HBa.trans (hb.mono (by omega))
  replace zs : w.heap.size < w1.heap.size := Nat.lt_of_lt_of_le zs hb.size
  clear hb R2
  go_wp2_with fail
  with_reducible refine (K2 _).mono ?_
  rintro e w1 ⟨rfl, hb⟩
  replace cM := cs_below cM hb (by omega)
  replace HBa := HBa.trans (hb.mono (by omega))
  replace zs : w.heap.size < w1.heap.size := Nat.lt_of_lt_of_le zs hb.size
  clear hb K2
  go_wp2_with fail
  rw [rounds_succ]
  go_wp2
  go_ret
  exact ⟨rfl, HBa⟩

set_option maxRecDepth 100000 in
set_option maxHeartbeats 3200000 in
theorem ref2_valid0 (M : Nat → Int) (hb : okCM M) (o0 : ¬ okV (M 0) (M 1) (M 2) (M 3) (M 4) (M 5) = true) (w : World) :
    Calls Try.prog 51 #[.agg #[.int .i64 (M 0), .int .i64 (M 1), .int .i64 (M 2), .int .i64 (M 3), .int .i64 (M 4), .int .i64 (M 5), .int .i64 (M 6), .int .i64 (M 7), .int .i64 (M 8), .int .i64 (M 9), .int .i64 (M 10), .int .i64 (M 11), .int .i64 (M 12), .int .i64 (M 13), .int .i64 (M 14), .int .i64 (M 15), .int .i64 (M 16), .int .i64 (M 17)]] w fun x w' => x = .returned (.int .i64 8) ∧ Below w.heap.size w w' := by
  obtain ⟨⟨p1, p2, p3⟩, ⟨q1, q2, q3⟩, r1, r2, r3⟩ := okCM_row hb
  have R0 := fun w => ref2_Row0 M w
  have K0 := fun w => ref2_Check (M 0) (M 1) (M 2) (M 3) (M 4) (M 5) p1 p2 p3 w
  rw [chV, if_neg o0] at K0
  clear hb p1 p2 p3 q1 q2 q3 r1 r2 r3 o0
  have dAl := dAl; have dSt := dSt
  go_enter Try.func51, Try.ntmps51
  go_upto_region 1 with fail
  refine opq (fun wx => Cs wx w.heap.size 18 M ∧ w.heap.size < wx.heap.size ∧ Below w.heap.size w wx) ?_ ?_
  · exact ⟨cs_new rfl (arrM M), by simp, kb⟩
  rintro wz ⟨cM, zs, HBa⟩
  go_wp2_with fail
  refine wp_loop_rounds 4 ?_
  rw [rounds_succ]
  go_upto_region 4 with fail
  go_step
  refine load18 (.tmp 1) _ M cM rfl rfl rfl ?_
  go_wp2_with fail
  with_reducible refine (R0 _).mono ?_
  rintro e w1 ⟨rfl, hb⟩
  replace cM := cs_below cM hb (by omega)
  replace HBa := HBa.trans (hb.mono (by omega))
  replace zs : w.heap.size < w1.heap.size := Nat.lt_of_lt_of_le zs hb.size
  clear hb R0
  go_wp2_with fail
  with_reducible refine (K0 _).mono ?_
  rintro e w1 ⟨rfl, hb⟩
  replace cM := cs_below cM hb (by omega)
  replace HBa := HBa.trans (hb.mono (by omega))
  replace zs : w.heap.size < w1.heap.size := Nat.lt_of_lt_of_le zs hb.size
  clear hb K0
  go_wp2
  go_ret
  exact ⟨rfl, HBa⟩

set_option maxRecDepth 100000 in
set_option maxHeartbeats 3200000 in
theorem ref2_valid1 (M : Nat → Int) (hb : okCM M) (o0 : okV (M 0) (M 1) (M 2) (M 3) (M 4) (M 5) = true) (o1 : ¬ okV (M 6) (M 7) (M 8) (M 9) (M 10) (M 11) = true) (w : World) :
    Calls Try.prog 51 #[.agg #[.int .i64 (M 0), .int .i64 (M 1), .int .i64 (M 2), .int .i64 (M 3), .int .i64 (M 4), .int .i64 (M 5), .int .i64 (M 6), .int .i64 (M 7), .int .i64 (M 8), .int .i64 (M 9), .int .i64 (M 10), .int .i64 (M 11), .int .i64 (M 12), .int .i64 (M 13), .int .i64 (M 14), .int .i64 (M 15), .int .i64 (M 16), .int .i64 (M 17)]] w fun x w' => x = .returned (.int .i64 8) ∧ Below w.heap.size w w' := by
  obtain ⟨⟨p1, p2, p3⟩, ⟨q1, q2, q3⟩, r1, r2, r3⟩ := okCM_row hb
  have R0 := fun w => ref2_Row0 M w
  have K0 := fun w => ref2_Check (M 0) (M 1) (M 2) (M 3) (M 4) (M 5) p1 p2 p3 w
  rw [chV, if_pos o0] at K0
  have R1 := fun w => ref2_Row1 M w
  have K1 := fun w => ref2_Check (M 6) (M 7) (M 8) (M 9) (M 10) (M 11) q1 q2 q3 w
  rw [chV, if_neg o1] at K1
  clear hb p1 p2 p3 q1 q2 q3 r1 r2 r3 o0 o1
  have dAl := dAl; have dSt := dSt
  go_enter Try.func51, Try.ntmps51
  go_upto_region 1 with fail
  refine opq (fun wx => Cs wx w.heap.size 18 M ∧ w.heap.size < wx.heap.size ∧ Below w.heap.size w wx) ?_ ?_
  · exact ⟨cs_new rfl (arrM M), by simp, kb⟩
  rintro wz ⟨cM, zs, HBa⟩
  go_wp2_with fail
  refine wp_loop_rounds 4 ?_
  rw [rounds_succ]
  go_upto_region 4 with fail
  go_step
  refine load18 (.tmp 1) _ M cM rfl rfl rfl ?_
  go_wp2_with fail
  with_reducible refine (R0 _).mono ?_
  rintro e w1 ⟨rfl, hb⟩
  replace cM := cs_below cM hb (by omega)
  replace HBa := HBa.trans (hb.mono (by omega))
  replace zs : w.heap.size < w1.heap.size := Nat.lt_of_lt_of_le zs hb.size
  clear hb R0
  go_wp2_with fail
  with_reducible refine (K0 _).mono ?_
  rintro e w1 ⟨rfl, hb⟩
  replace cM := cs_below cM hb (by omega)
  replace HBa := HBa.trans (hb.mono (by omega))
  replace zs : w.heap.size < w1.heap.size := Nat.lt_of_lt_of_le zs hb.size
  clear hb K0
  go_wp2_with fail
  rw [rounds_succ]
  go_upto_region 4 with fail
  go_step
  refine load18 (.tmp 1) _ M cM rfl rfl rfl ?_
  go_wp2_with fail
  with_reducible refine (R1 _).mono ?_
  rintro e w1 ⟨rfl, hb⟩
  replace cM := cs_below cM hb (by omega)
  replace HBa := HBa.trans (hb.mono (by omega))
  replace zs : w.heap.size < w1.heap.size := Nat.lt_of_lt_of_le zs hb.size
  clear hb R1
  go_wp2_with fail
  with_reducible refine (K1 _).mono ?_
  rintro e w1 ⟨rfl, hb⟩
  replace cM := cs_below cM hb (by omega)
  replace HBa := HBa.trans (hb.mono (by omega))
  replace zs : w.heap.size < w1.heap.size := Nat.lt_of_lt_of_le zs hb.size
  clear hb K1
  go_wp2
  go_ret
  exact ⟨rfl, HBa⟩

set_option maxRecDepth 100000 in
set_option maxHeartbeats 3200000 in
theorem ref2_valid2 (M : Nat → Int) (hb : okCM M) (o0 : okV (M 0) (M 1) (M 2) (M 3) (M 4) (M 5) = true) (o1 : okV (M 6) (M 7) (M 8) (M 9) (M 10) (M 11) = true) (o2 : ¬ okV (M 12) (M 13) (M 14) (M 15) (M 16) (M 17) = true) (w : World) :
    Calls Try.prog 51 #[.agg #[.int .i64 (M 0), .int .i64 (M 1), .int .i64 (M 2), .int .i64 (M 3), .int .i64 (M 4), .int .i64 (M 5), .int .i64 (M 6), .int .i64 (M 7), .int .i64 (M 8), .int .i64 (M 9), .int .i64 (M 10), .int .i64 (M 11), .int .i64 (M 12), .int .i64 (M 13), .int .i64 (M 14), .int .i64 (M 15), .int .i64 (M 16), .int .i64 (M 17)]] w fun x w' => x = .returned (.int .i64 8) ∧ Below w.heap.size w w' := by
  obtain ⟨⟨p1, p2, p3⟩, ⟨q1, q2, q3⟩, r1, r2, r3⟩ := okCM_row hb
  have R0 := fun w => ref2_Row0 M w
  have K0 := fun w => ref2_Check (M 0) (M 1) (M 2) (M 3) (M 4) (M 5) p1 p2 p3 w
  rw [chV, if_pos o0] at K0
  have R1 := fun w => ref2_Row1 M w
  have K1 := fun w => ref2_Check (M 6) (M 7) (M 8) (M 9) (M 10) (M 11) q1 q2 q3 w
  rw [chV, if_pos o1] at K1
  have R2 := fun w => ref2_Row2 M w
  have K2 := fun w => ref2_Check (M 12) (M 13) (M 14) (M 15) (M 16) (M 17) r1 r2 r3 w
  rw [chV, if_neg o2] at K2
  clear hb p1 p2 p3 q1 q2 q3 r1 r2 r3 o0 o1 o2
  have dAl := dAl; have dSt := dSt
  go_enter Try.func51, Try.ntmps51
  go_upto_region 1 with fail
  refine opq (fun wx => Cs wx w.heap.size 18 M ∧ w.heap.size < wx.heap.size ∧ Below w.heap.size w wx) ?_ ?_
  · exact ⟨cs_new rfl (arrM M), by simp, kb⟩
  rintro wz ⟨cM, zs, HBa⟩
  go_wp2_with fail
  refine wp_loop_rounds 4 ?_
  rw [rounds_succ]
  go_upto_region 4 with fail
  go_step
  refine load18 (.tmp 1) _ M cM rfl rfl rfl ?_
  go_wp2_with fail
  with_reducible refine (R0 _).mono ?_
  rintro e w1 ⟨rfl, hb⟩
  replace cM := cs_below cM hb (by omega)
  replace HBa := HBa.trans (hb.mono (by omega))
  replace zs : w.heap.size < w1.heap.size := Nat.lt_of_lt_of_le zs hb.size
  clear hb R0
  go_wp2_with fail
  with_reducible refine (K0 _).mono ?_
  rintro e w1 ⟨rfl, hb⟩
  replace cM := cs_below cM hb (by omega)
  replace HBa := HBa.trans (hb.mono (by omega))
  replace zs : w.heap.size < w1.heap.size := Nat.lt_of_lt_of_le zs hb.size
  clear hb K0
  go_wp2_with fail
  rw [rounds_succ]
  go_upto_region 4 with fail
  go_step
  refine load18 (.tmp 1) _ M cM rfl rfl rfl ?_
  go_wp2_with fail
  with_reducible refine (R1 _).mono ?_
  rintro e w1 ⟨rfl, hb⟩
  replace cM := cs_below cM hb (by omega)
  replace HBa := HBa.trans (hb.mono (by omega))
  replace zs : w.heap.size < w1.heap.size := Nat.lt_of_lt_of_le zs hb.size
  clear hb R1
  go_wp2_with fail
  with_reducible refine (K1 _).mono ?_
  rintro e w1 ⟨rfl, hb⟩
  replace cM := cs_below cM hb (by omega)
  replace HBa := HBa.trans (hb.mono (by omega))
  replace zs : w.heap.size < w1.heap.size := Nat.lt_of_lt_of_le zs hb.size
  clear hb K1
  go_wp2_with fail
  rw [rounds_succ]
  go_upto_region 4 with fail
  go_step
  refine load18 (.tmp 1) _ M cM rfl rfl rfl ?_
  go_wp2_with fail
  with_reducible refine (R2 _).mono ?_
  rintro e w1 ⟨rfl, hb⟩
  replace cM := cs_below cM hb (by omega)
  replace HBa := HBa.trans (hb.mono (by omega))
  replace zs : w.heap.size < w1.heap.size := Nat.lt_of_lt_of_le zs hb.size
  clear hb R2
  go_wp2_with fail
  with_reducible refine (K2 _).mono ?_
  rintro e w1 ⟨rfl, hb⟩
  replace cM := cs_below cM hb (by omega)
  replace HBa := HBa.trans (hb.mono (by omega))
  replace zs : w.heap.size < w1.heap.size := Nat.lt_of_lt_of_le zs hb.size
  clear hb K2
  go_wp2
  go_ret
  exact ⟨rfl, HBa⟩

theorem ref2_Valid (M : Nat → Int) (hb : okCM M) (w : World) :
    Calls Try.prog 51 #[.agg #[.int .i64 (M 0), .int .i64 (M 1), .int .i64 (M 2), .int .i64 (M 3), .int .i64 (M 4), .int .i64 (M 5), .int .i64 (M 6), .int .i64 (M 7), .int .i64 (M 8), .int .i64 (M 9), .int .i64 (M 10), .int .i64 (M 11), .int .i64 (M 12), .int .i64 (M 13), .int .i64 (M 14), .int .i64 (M 15), .int .i64 (M 16), .int .i64 (M 17)]] w fun x w' => x = .returned (.int .i64 (chM M)) ∧ Below w.heap.size w w' := by
  by_cases o0 : okV (M 0) (M 1) (M 2) (M 3) (M 4) (M 5) = true
  · by_cases o1 : okV (M 6) (M 7) (M 8) (M 9) (M 10) (M 11) = true
    · by_cases o2 : okV (M 12) (M 13) (M 14) (M 15) (M 16) (M 17) = true
      · rw [chM_ok (okM_of o0 o1 o2)]; exact ref2_valid3 M hb o0 o1 o2 w
      · rw [chM_bad (fun k => o2 (okM_row M k).2.2)]; exact ref2_valid2 M hb o0 o1 o2 w
    · rw [chM_bad (fun k => o1 (okM_row M k).2.1)]; exact ref2_valid1 M hb o0 o1 w
  · rw [chM_bad (fun k => o0 (okM_row M k).1)]; exact ref2_valid0 M hb o0 w
end Go.Proofs.Ytlijkebdaalldaa
namespace Go.Proofs.Ytlijkebdaalldaa
open Go.RowKit
set_option linter.unusedVariables false
set_option linter.unusedSimpArgs false

def rfN (M : Nat → Int) (i k : Nat) : Nat → Int := fun o => if o / 6 < i ∨ (o / 6 = i ∧ o % 6 / 2 < k) then fpP M o else 0

set_option maxRecDepth 100000 in
set_option maxHeartbeats 3200000 in
theorem ref2_flip_ok (M : Nat → Int) (VA : ∀ w : World, Calls Try.prog 51 #[.agg #[.int .i64 (M 0), .int .i64 (M 1), .int .i64 (M 2), .int .i64 (M 3), .int .i64 (M 4), .int .i64 (M 5), .int .i64 (M 6), .int .i64 (M 7), .int .i64 (M 8), .int .i64 (M 9), .int .i64 (M 10), .int .i64 (M 11), .int .i64 (M 12), .int .i64 (M 13), .int .i64 (M 14), .int .i64 (M 15), .int .i64 (M 16), .int .i64 (M 17)]] w fun x w' => x = .returned (.int .i64 0) ∧ Below w.heap.size w w') (w : World) :
    Calls Try.prog 25 #[.agg #[.int .i64 (M 0), .int .i64 (M 1), .int .i64 (M 2), .int .i64 (M 3), .int .i64 (M 4), .int .i64 (M 5), .int .i64 (M 6), .int .i64 (M 7), .int .i64 (M 8), .int .i64 (M 9), .int .i64 (M 10), .int .i64 (M 11), .int .i64 (M 12), .int .i64 (M 13), .int .i64 (M 14), .int .i64 (M 15), .int .i64 (M 16), .int .i64 (M 17)]] w fun x w' => x = .returned (.tuple #[.agg #[.int .i64 ((fpP M) 0), .int .i64 ((fpP M) 1), .int .i64 ((fpP M) 2), .int .i64 ((fpP M) 3), .int .i64 ((fpP M) 4), .int .i64 ((fpP M) 5), .int .i64 ((fpP M) 6), .int .i64 ((fpP M) 7), .int .i64 ((fpP M) 8), .int .i64 ((fpP M) 9), .int .i64 ((fpP M) 10), .int .i64 ((fpP M) 11), .int .i64 ((fpP M) 12), .int .i64 ((fpP M) 13), .int .i64 ((fpP M) 14), .int .i64 ((fpP M) 15), .int .i64 ((fpP M) 16), .int .i64 ((fpP M) 17)], .int .i64 0]) ∧ Below w.heap.size w w' := by
  have dAl := dAl; have dSt := dSt
  go_enter Try.func25, Try.ntmps25
  go_upto_region 1 with fail
  refine opq (fun wx => Cs wx w.heap.size 18 M ∧ Cs wx (w.heap.size + 1) 18 (fun _ => 0) ∧ Fs wx (w.heap.size + 1) 18 ∧ w.heap.size + 1 < wx.heap.size ∧ Below w.heap.size w wx) ?_ ?_
  · exact ⟨cs_alloc _ (cs_new rfl (arrM M)) (by simp), cs_new (by simp) arr0, fs_new (by simp), by simp, kb⟩
  rintro wz ⟨cM, cR, fR, zs, HBa⟩
  go_step
  refine load18 (.tmp 1) _ M cM rfl rfl rfl ?_
  go_wp2_with fail
  with_reducible refine (VA _).mono ?_
  rintro e w1 ⟨rfl, hb⟩
  replace cM := cs_below cM hb (by omega)
  replace cR := cs_below cR hb (by omega)
  replace fR := fs_below fR hb (by omega)
  replace HBa := HBa.trans (hb.mono (by omega))
  replace zs : w.heap.size + 1 < w1.heap.size := Nat.lt_of_lt_of_le zs hb.size
  clear hb VA
  go_upto_region 3 with fail
  go_step
  refine wpList_plain rfl (fun K hK => ?_)
  go_big_op
  refine hK _ _ ?_
  clear hK K
  refine wpList_plain rfl (fun K hK => ?_)
  go_big_op
  refine hK _ _ ?_
  clear hK K
  refine store18 (.tmp 4) (.tmp 11) w1.heap.size (fun _ => 0) (fun _ => 0) (cs_new rfl arr0) (fs_new rfl) rfl rfl rfl rfl ?_
  intro wa cX fX sX bX
  have HB0 := bX w1.heap.size w1 (Nat.le_refl _) (bal (b0 _) _)
  have zg : w1.heap.size < wa.heap.size := by rw [sX]; simp
  replace cM := cs_below cM HB0 (by omega)
  replace cR := cs_below cR HB0 (by omega)
  replace fR := fs_below fR HB0 (by omega)
  replace HBa := HBa.trans (HB0.mono (by omega))
  have cN : Cs wa w1.heap.size 18 (rfN M 0 0) := cs_eq cX (by apply cases18 <;> rfl)
  have fN := fX
  clear cX fX sX bX HB0
  generalize w1.heap.size = g at *
  clear w1
  go_wp2_with fail
  go_loopg [5] 3 (fun kk s9 wr => ∃ (i : Nat) (z : Int), kk = 3 - i ∧ s9 = .int .i64 z ∧ z = i ∧ i ≤ 3 ∧ Cs wr g 18 (rfN M i 0) ∧ Fs wr g 18 ∧ Below g wa wr ∧ wa.heap.size ≤ wr.heap.size)
  case atStart => exact ⟨0, 0, rfl, rfl, rfl, by omega, cN, fN, Below.refl _ _, Nat.le_refl _⟩
  clear cN fN
  obtain ⟨i, z, rfl, rfl, hz, hi, cI, fI, hbI, hzI⟩ := hrel
  rcases (show i = 3 ∨ i = 0 ∨ i = 1 ∨ i = 2 by omega) with rfl | rfl | rfl | rfl
  · obtain rfl : z = 3 := hz
    have cF : Cs wr g 18 (fpP M) := cs_eq cI (by apply cases18 <;> rfl)
    replace cR := cs_below cR hbI (by omega)
    replace fR := fs_below fR hbI (by omega)
    replace HBa := HBa.trans (hbI.mono (by omega))
    clear cI fI hbI
    go_upto_region 11 with fail
    go_step
    refine load18 (.tmp 4) _ (fpP M) cF rfl rfl rfl ?_
    clear cF
    refine store18 (.tmp 2) (.tmp 29) (w.heap.size + 1) (fpP M) (fun _ => 0) cR fR rfl rfl rfl rfl ?_
    intro wx cX fX sX bX
    have HBx := bX w.heap.size w (by omega) HBa
    clear cR fR HBa bX fX sX
    go_wp2
    refine bodyPost_ret (res_mat2 Try.results25 rfl rfl cX) rfl ?_
    exact ⟨rfl, HBx⟩
  · obtain rfl : z = 0 := hz
    go_wp2_with fail
    go_loopg [6] 3 (fun kk s14 wv => ∃ (k : Nat) (y : Int), kk = 3 - k ∧ s14 = .int .i64 y ∧ y = k ∧ k ≤ 3 ∧ Cs wv g 18 (rfN M 0 k) ∧ Fs wv g 18 ∧ Below g wa wv ∧ wa.heap.size ≤ wv.heap.size)
    case atStart => exact ⟨0, 0, rfl, rfl, rfl, by omega, kc, kf, kg, by (first | omega | (simp [ext_size, World.setCell] <;> omega))⟩
    clear cI fI hbI hzI
    obtain ⟨k, y, rfl, rfl, hy, hk, cI, fI, hbI, hzI⟩ := hrel
    have c0 : ∀ o, o < 18 → wr.cell? ⟨g, o, none⟩ = some (.int .i64 (rfN M 0 k o)) := cI
    have f0 : ∀ o, o < 18 → wr.frozen? ⟨g, o, none⟩ = false := fI
    have hM : ∀ o, o < 18 → wr.cell? ⟨w.heap.size, o, none⟩ = some (.int .i64 (M o)) := cs_below cM hbI (by omega)
    have zv : g < wr.heap.size := by omega
    rcases (show k = 3 ∨ k = 0 ∨ k = 1 ∨ k = 2 by omega) with rfl | rfl | rfl | rfl
    · obtain rfl : y = 3 := hy
      go_wp2_with fail
      go_roundg (3 - (0 + 1))
      all_goals first
        | omega
        | exact ⟨0 + 1, 0 + 1, rfl, rfl, rfl, by omega, cs_eq cI (by apply cases18 <;> rfl), fI, hbI, hzI⟩
    · obtain rfl : y = 0 := hy
      go_wp2_with fail
      go_region_held3 (fun w' => w'.cell? ⟨w.heap.size, 0, none⟩ = some (.int .i64 (M 0)) ∧ w'.cell? ⟨w.heap.size, 1, none⟩ = some (.int .i64 (M 1))) (simp (maxDischargeDepth := 8) [go_sem, kp, *]) (fail)
      all_goals go_wp2
      all_goals go_roundg (3 - (0 + 1))
      all_goals first
        | omega
        | exact ⟨0 + 1, 0 + 1, rfl, rfl, rfl, by omega, cs_eq (N := up (up (rfN M 0 0) 0 (M 0)) (0 + 1) (M 1)) (kc) (by apply cases18 <;> rfl), kf, kg, by (first | omega | (simp [ext_size, World.setCell] <;> omega))⟩
    · obtain rfl : y = 1 := hy
      go_wp2_with fail
      go_region_held3 (fun w' => w'.cell? ⟨w.heap.size, 6, none⟩ = some (.int .i64 (M 6)) ∧ w'.cell? ⟨w.heap.size, 7, none⟩ = some (.int .i64 (M 7))) (simp (maxDischargeDepth := 8) [go_sem, kp, *]) (fail)
      all_goals go_wp2
      all_goals go_roundg (3 - (1 + 1))
      all_goals first
        | omega
        | exact ⟨1 + 1, 1 + 1, rfl, rfl, rfl, by omega, cs_eq (N := up (up (rfN M 0 1) 2 (M 6)) (2 + 1) (M 7)) (kc) (by apply cases18 <;> rfl), kf, kg, by (first | omega | (simp [ext_size, World.setCell] <;> omega))⟩
    · obtain rfl : y = 2 := hy
      go_wp2_with fail
      go_region_held3 (fun w' => w'.cell? ⟨w.heap.size, 12, none⟩ = some (.int .i64 (M 12)) ∧ w'.cell? ⟨w.heap.size, 13, none⟩ = some (.int .i64 (M 13))) (simp (maxDischargeDepth := 8) [go_sem, kp, *]) (fail)
      all_goals go_wp2
      all_goals go_roundg (3 - (2 + 1))
      all_goals first
        | omega
        | exact ⟨2 + 1, 2 + 1, rfl, rfl, rfl, by omega, cs_eq (N := up (up (rfN M 0 2) 4 (M 12)) (4 + 1) (M 13)) (kc) (by apply cases18 <;> rfl), kf, kg, by (first | omega | (simp [ext_size, World.setCell] <;> omega))⟩
  · obtain rfl : z = 1 := hz
    go_wp2_with fail
    go_loopg [6] 3 (fun kk s14 wv => ∃ (k : Nat) (y : Int), kk = 3 - k ∧ s14 = .int .i64 y ∧ y = k ∧ k ≤ 3 ∧ Cs wv g 18 (rfN M 1 k) ∧ Fs wv g 18 ∧ Below g wa wv ∧ wa.heap.size ≤ wv.heap.size)
    case atStart => exact ⟨0, 0, rfl, rfl, rfl, by omega, kc, kf, kg, by (first | omega | (simp [ext_size, World.setCell] <;> omega))⟩
    clear cI fI hbI hzI
    obtain ⟨k, y, rfl, rfl, hy, hk, cI, fI, hbI, hzI⟩ := hrel
    have c0 : ∀ o, o < 18 → wr.cell? ⟨g, o, none⟩ = some (.int .i64 (rfN M 1 k o)) := cI
    have f0 : ∀ o, o < 18 → wr.frozen? ⟨g, o, none⟩ = false := fI
    have hM : ∀ o, o < 18 → wr.cell? ⟨w.heap.size, o, none⟩ = some (.int .i64 (M o)) := cs_below cM hbI (by omega)
    have zv : g < wr.heap.size := by omega
    rcases (show k = 3 ∨ k = 0 ∨ k = 1 ∨ k = 2 by omega) with rfl | rfl | rfl | rfl
    · obtain rfl : y = 3 := hy
      go_wp2_with fail
      go_roundg (3 - (1 + 1))
      all_goals first
        | omega
        | exact ⟨1 + 1, 1 + 1, rfl, rfl, rfl, by omega, cs_eq cI (by apply cases18 <;> rfl), fI, hbI, hzI⟩
    · obtain rfl : y = 0 := hy
      go_wp2_with fail
      go_region_held3 (fun w' => w'.cell? ⟨w.heap.size, 2, none⟩ = some (.int .i64 (M 2)) ∧ w'.cell? ⟨w.heap.size, 3, none⟩ = some (.int .i64 (M 3))) (simp (maxDischargeDepth := 8) [go_sem, kp, *]) (fail)
      all_goals go_wp2
      all_goals go_roundg (3 - (0 + 1))
      all_goals first
        | omega
        | exact ⟨0 + 1, 0 + 1, rfl, rfl, rfl, by omega, cs_eq (N := up (up (rfN M 1 0) 6 (M 2)) (6 + 1) (M 3)) (kc) (by apply cases18 <;> rfl), kf, kg, by (first | omega | (simp [ext_size, World.setCell] <;> omega))⟩
    · obtain rfl : y = 1 := hy
      go_wp2_with fail
      go_region_held3 (fun w' => w'.cell? ⟨w.heap.size, 8, none⟩ = some (.int .i64 (M 8)) ∧ w'.cell? ⟨w.heap.size, 9, none⟩ = some (.int .i64 (M 9))) (simp (maxDischargeDepth := 8) [go_sem, kp, *]) (fail)
      all_goals go_wp2
      all_goals go_roundg (3 - (1 + 1))
      all_goals first
        | omega
        | exact ⟨1 + 1, 1 + 1, rfl, rfl, rfl, by omega, cs_eq (N := up (up (rfN M 1 1) 8 (M 8)) (8 + 1) (M 9)) (kc) (by apply cases18 <;> rfl), kf, kg, by (first | omega | (simp [ext_size, World.setCell] <;> omega))⟩
    · obtain rfl : y = 2 := hy
      go_wp2_with fail
      go_region_held3 (fun w' => w'.cell? ⟨w.heap.size, 14, none⟩ = some (.int .i64 (M 14)) ∧ w'.cell? ⟨w.heap.size, 15, none⟩ = some (.int .i64 (M 15))) (simp (maxDischargeDepth := 8) [go_sem, kp, *]) (fail)
      all_goals go_wp2
      all_goals go_roundg (3 - (2 + 1))
      all_goals first
        | omega
        | exact ⟨2 + 1, 2 + 1, rfl, rfl, rfl, by omega, cs_eq (N := up (up (rfN M 1 2) 10 (M 14)) (10 + 1) (M 15)) (kc) (by apply cases18 <;> rfl), kf, kg, by (first | omega | (simp [ext_size, World.setCell] <;> omega))⟩
  · obtain rfl : z = 2 := hz
    go_wp2_with fail
    go_loopg [6] 3 (fun kk s14 wv => ∃ (k : Nat) (y : Int), kk = 3 - k ∧ s14 = .int .i64 y ∧ y = k ∧ k ≤ 3 ∧ Cs wv g 18 (rfN M 2 k) ∧ Fs wv g 18 ∧ Below g wa wv ∧ wa.heap.size ≤ wv.heap.size)
    case atStart => exact ⟨0, 0, rfl, rfl, rfl, by omega, kc, kf, kg, by (first | omega | (simp [ext_size, World.setCell] <;> omega))⟩
    clear cI fI hbI hzI
    obtain ⟨k, y, rfl, rfl, hy, hk, cI, fI, hbI, hzI⟩ := hrel
    have c0 : ∀ o, o < 18 → wr.cell? ⟨g, o, none⟩ = some (.int .i64 (rfN M 2 k o)) := cI
    have f0 : ∀ o, o < 18 → wr.frozen? ⟨g, o, none⟩ = false := fI
    have hM : ∀ o, o < 18 → wr.cell? ⟨w.heap.size, o, none⟩ = some (.int .i64 (M o)) := cs_below cM hbI (by omega)
    have zv : g < wr.heap.size := by omega
    rcases (show k = 3 ∨ k = 0 ∨ k = 1 ∨ k = 2 by omega) with rfl | rfl | rfl | rfl
    · obtain rfl : y = 3 := hy
      go_wp2_with fail
      go_roundg (3 - (2 + 1))
      all_goals first
        | omega
        | exact ⟨2 + 1, 2 + 1, rfl, rfl, rfl, by omega, cs_eq cI (by apply cases18 <;> rfl), fI, hbI, hzI⟩
    · obtain rfl : y = 0 := hy
      go_wp2_with fail
      go_region_held3 (fun w' => w'.cell? ⟨w.heap.size, 4, none⟩ = some (.int .i64 (M 4)) ∧ w'.cell? ⟨w.heap.size, 5, none⟩ = some (.int .i64 (M 5))) (simp (maxDischargeDepth := 8) [go_sem, kp, *]) (fail)
      all_goals go_wp2
      all_goals go_roundg (3 - (0 + 1))
      all_goals first
        | omega
        | exact ⟨0 + 1, 0 + 1, rfl, rfl, rfl, by omega, cs_eq (N := up (up (rfN M 2 0) 12 (M 4)) (12 + 1) (M 5)) (kc) (by apply cases18 <;> rfl), kf, kg, by (first | omega | (simp [ext_size, World.setCell] <;> omega))⟩
    · obtain rfl : y = 1 := hy
      go_wp2_with fail
      go_region_held3 (fun w' => w'.cell? ⟨w.heap.size, 10, none⟩ = some (.int .i64 (M 10)) ∧ w'.cell? ⟨w.heap.size, 11, none⟩ = some (.int .i64 (M 11))) (simp (maxDischargeDepth := 8) [go_sem, kp, *]) (fail)
      all_goals go_wp2
      all_goals go_roundg (3 - (1 + 1))
      all_goals first
        | omega
        | exact ⟨1 + 1, 1 + 1, rfl, rfl, rfl, by omega, cs_eq (N := up (up (rfN M 2 1) 14 (M 10)) (14 + 1) (M 11)) (kc) (by apply cases18 <;> rfl), kf, kg, by (first | omega | (simp [ext_size, World.setCell] <;> omega))⟩
    · obtain rfl : y = 2 := hy
      go_wp2_with fail
      go_region_held3 (fun w' => w'.cell? ⟨w.heap.size, 16, none⟩ = some (.int .i64 (M 16)) ∧ w'.cell? ⟨w.heap.size, 17, none⟩ = some (.int .i64 (M 17))) (simp (maxDischargeDepth := 8) [go_sem, kp, *]) (fail)
      all_goals go_wp2
      all_goals go_roundg (3 - (2 + 1))
      all_goals first
        | omega
        | exact ⟨2 + 1, 2 + 1, rfl, rfl, rfl, by omega, cs_eq (N := up (up (rfN M 2 2) 16 (M 16)) (16 + 1) (M 17)) (kc) (by apply cases18 <;> rfl), kf, kg, by (first | omega | (simp [ext_size, World.setCell] <;> omega))⟩
end Go.Proofs.Ytlijkebdaalldaa
