/-
  Package vec: the closure of combine.
-/
import Derived.Test.YtbckjccbihnlnaaVd
import Derived.Test.YtbckjccbihnlnaaFxp
import Derived.Deep.RegionHeld3
namespace Go.Proofs.Ytbckjccbihnlnaa
open Go.RowKit
set_option linter.unusedVariables false
set_option linter.unusedSimpArgs false

set_option maxHeartbeats 1600000 in
theorem comb_add (k gd ga gb : Nat) (a b c d X Y E : Int) (hk : k < 3) (w : World) (hd0 : gd < w.heap.size) (ha0 : ga < w.heap.size) (hb0 : gb < w.heap.size)
    (hd : w.cell? ⟨gd, 0, none⟩ = some (.func (.func 21) #[] #[]))
    (h1 : w.cell? ⟨ga, k * 2, none⟩ = some (.int .i64 a)) (h2 : w.cell? ⟨ga, k * 2 + 1, none⟩ = some (.int .i64 b))
    (h3 : w.cell? ⟨gb, k * 2, none⟩ = some (.int .i64 c)) (h4 : w.cell? ⟨gb, k * 2 + 1, none⟩ = some (.int .i64 d))
    (A1 : ∀ w, Calls Try.prog 21 #[.agg #[.int .i64 a, .int .i64 b], .agg #[.int .i64 c, .int .i64 d]] w fun e w' => e = .returned (.tuple #[.agg #[.int .i64 X, .int .i64 Y], .int .i64 E]) ∧ Below w.heap.size w w') :
    Calls Try.prog 121 #[.int .i64 k, .pointer (some ⟨gd, 0, none⟩), .pointer (some ⟨ga, 0, none⟩), .pointer (some ⟨gb, 0, none⟩)] w fun e w' => e = .returned (.tuple #[.agg #[.int .i64 X, .int .i64 Y], .int .i64 E]) ∧ Below w.heap.size w w' := by
  have kk : (k : Int) < 3 := by omega
  have dAl := dAl; have dSt := dSt; have xC := ext_cell; have xF := ext_frozen; have xS := ext_set; have xN := ext_drewN; have xD := ext_drew; have xL := ext_lt; have xE := ext_ne; have xG := ext_nr; have xX := ext_ext; have xL1 := ext_lt1; have xL2 := ext_lt2; have xL3 := ext_lt3; have xM0 := ext_le0; have xM1 := ext_le1; have xM2 := ext_le2
  have dz1 : ∀ (W : World) (l : List Obj) (d : Nat), (ext W.drew l d) = (ext W l d) := fun _ _ _ => rfl
  have dz2 : ∀ (W : World) (l : List Obj) (n d : Nat), (ext (W.drewN n) l d) = (ext W l d) := fun _ _ _ _ => rfl
  go_enter Try.func121, Try.ntmps121
  go_wp2_with fail
  go_region_held3 (fun w' => w'.cell? ⟨gd, 0, none⟩ = some (.func (.func 21) #[] #[]) ∧ w'.cell? ⟨ga, k * 2, none⟩ = some (.int .i64 a) ∧ w'.cell? ⟨ga, k * 2 + 1, none⟩ = some (.int .i64 b) ∧ w'.cell? ⟨gb, k * 2, none⟩ = some (.int .i64 c) ∧ w'.cell? ⟨gb, k * 2 + 1, none⟩ = some (.int .i64 d)) (simp (maxDischargeDepth := 8) [go_sem, World.cell?_alloc_past, ltk2, ltk3, ltk4, ltk5, ltk6, ltk7, ltk8, ltk9, *])
    ((go_at_call 21; with_reducible refine (A1 _).mono ?_; rintro e w' ⟨rfl, hb⟩; obtain ⟨l9, d9, rfl⟩ := toExt hb; clear hb))
  all_goals (try go_wp2)
  all_goals refine bodyPost_ret (by simp [results, Try.results121, go_sem, ext_cell, World.cell?_alloc_past, ltk2, ltk3, ltk4, ltk5, ltk6, ltk7, ltk8, ltk9, *]; try rfl) rfl ?_
  all_goals exact ⟨rfl, by (repeat (first | with_reducible exact b0 _ | (with_reducible refine bext ?_ _ _) | (with_reducible refine below_drewN ?_ _) | (with_reducible refine Below.drew ?_) | (with_reducible refine bal ?_ _) | (with_reducible refine bset ?_ (by first | omega | (simp <;> omega)) _)))⟩

set_option maxHeartbeats 1600000 in
theorem comb_sub (k gd ga gb : Nat) (a b c d X Y E : Int) (hk : k < 3) (w : World) (hd0 : gd < w.heap.size) (ha0 : ga < w.heap.size) (hb0 : gb < w.heap.size)
    (hd : w.cell? ⟨gd, 0, none⟩ = some (.func (.func 22) #[] #[]))
    (h1 : w.cell? ⟨ga, k * 2, none⟩ = some (.int .i64 a)) (h2 : w.cell? ⟨ga, k * 2 + 1, none⟩ = some (.int .i64 b))
    (h3 : w.cell? ⟨gb, k * 2, none⟩ = some (.int .i64 c)) (h4 : w.cell? ⟨gb, k * 2 + 1, none⟩ = some (.int .i64 d))
    (A1 : ∀ w, Calls Try.prog 22 #[.agg #[.int .i64 a, .int .i64 b], .agg #[.int .i64 c, .int .i64 d]] w fun e w' => e = .returned (.tuple #[.agg #[.int .i64 X, .int .i64 Y], .int .i64 E]) ∧ Below w.heap.size w w') :
    Calls Try.prog 121 #[.int .i64 k, .pointer (some ⟨gd, 0, none⟩), .pointer (some ⟨ga, 0, none⟩), .pointer (some ⟨gb, 0, none⟩)] w fun e w' => e = .returned (.tuple #[.agg #[.int .i64 X, .int .i64 Y], .int .i64 E]) ∧ Below w.heap.size w w' := by
  have kk : (k : Int) < 3 := by omega
  have dAl := dAl; have dSt := dSt; have xC := ext_cell; have xF := ext_frozen; have xS := ext_set; have xN := ext_drewN; have xD := ext_drew; have xL := ext_lt; have xE := ext_ne; have xG := ext_nr; have xX := ext_ext; have xL1 := ext_lt1; have xL2 := ext_lt2; have xL3 := ext_lt3; have xM0 := ext_le0; have xM1 := ext_le1; have xM2 := ext_le2
  have dz1 : ∀ (W : World) (l : List Obj) (d : Nat), (ext W.drew l d) = (ext W l d) := fun _ _ _ => rfl
  have dz2 : ∀ (W : World) (l : List Obj) (n d : Nat), (ext (W.drewN n) l d) = (ext W l d) := fun _ _ _ _ => rfl
  go_enter Try.func121, Try.ntmps121
  go_wp2_with fail
  go_region_held3 (fun w' => w'.cell? ⟨gd, 0, none⟩ = some (.func (.func 22) #[] #[]) ∧ w'.cell? ⟨ga, k * 2, none⟩ = some (.int .i64 a) ∧ w'.cell? ⟨ga, k * 2 + 1, none⟩ = some (.int .i64 b) ∧ w'.cell? ⟨gb, k * 2, none⟩ = some (.int .i64 c) ∧ w'.cell? ⟨gb, k * 2 + 1, none⟩ = some (.int .i64 d)) (simp (maxDischargeDepth := 8) [go_sem, World.cell?_alloc_past, ltk2, ltk3, ltk4, ltk5, ltk6, ltk7, ltk8, ltk9, *])
    ((go_at_call 22; with_reducible refine (A1 _).mono ?_; rintro e w' ⟨rfl, hb⟩; obtain ⟨l9, d9, rfl⟩ := toExt hb; clear hb))
  all_goals (try go_wp2)
  all_goals refine bodyPost_ret (by simp [results, Try.results121, go_sem, ext_cell, World.cell?_alloc_past, ltk2, ltk3, ltk4, ltk5, ltk6, ltk7, ltk8, ltk9, *]; try rfl) rfl ?_
  all_goals exact ⟨rfl, by (repeat (first | with_reducible exact b0 _ | (with_reducible refine bext ?_ _ _) | (with_reducible refine below_drewN ?_ _) | (with_reducible refine Below.drew ?_) | (with_reducible refine bal ?_ _) | (with_reducible refine bset ?_ (by first | omega | (simp <;> omega)) _)))⟩

set_option maxHeartbeats 1600000 in
theorem comb_mul (k gd ga gb : Nat) (a b c d X Y E : Int) (hk : k < 3) (w : World) (hd0 : gd < w.heap.size) (ha0 : ga < w.heap.size) (hb0 : gb < w.heap.size)
    (hd : w.cell? ⟨gd, 0, none⟩ = some (.func (.func 13) #[] #[]))
    (h1 : w.cell? ⟨ga, k * 2, none⟩ = some (.int .i64 a)) (h2 : w.cell? ⟨ga, k * 2 + 1, none⟩ = some (.int .i64 b))
    (h3 : w.cell? ⟨gb, k * 2, none⟩ = some (.int .i64 c)) (h4 : w.cell? ⟨gb, k * 2 + 1, none⟩ = some (.int .i64 d))
    (A1 : ∀ w, Calls Try.prog 13 #[.agg #[.int .i64 a, .int .i64 b], .agg #[.int .i64 c, .int .i64 d]] w fun e w' => e = .returned (.tuple #[.agg #[.int .i64 X, .int .i64 Y], .int .i64 E]) ∧ Below w.heap.size w w') :
    Calls Try.prog 121 #[.int .i64 k, .pointer (some ⟨gd, 0, none⟩), .pointer (some ⟨ga, 0, none⟩), .pointer (some ⟨gb, 0, none⟩)] w fun e w' => e = .returned (.tuple #[.agg #[.int .i64 X, .int .i64 Y], .int .i64 E]) ∧ Below w.heap.size w w' := by
  have kk : (k : Int) < 3 := by omega
  have dAl := dAl; have dSt := dSt; have xC := ext_cell; have xF := ext_frozen; have xS := ext_set; have xN := ext_drewN; have xD := ext_drew; have xL := ext_lt; have xE := ext_ne; have xG := ext_nr; have xX := ext_ext; have xL1 := ext_lt1; have xL2 := ext_lt2; have xL3 := ext_lt3; have xM0 := ext_le0; have xM1 := ext_le1; have xM2 := ext_le2
  have dz1 : ∀ (W : World) (l : List Obj) (d : Nat), (ext W.drew l d) = (ext W l d) := fun _ _ _ => rfl
  have dz2 : ∀ (W : World) (l : List Obj) (n d : Nat), (ext (W.drewN n) l d) = (ext W l d) := fun _ _ _ _ => rfl
  go_enter Try.func121, Try.ntmps121
  go_wp2_with fail
  go_region_held3 (fun w' => w'.cell? ⟨gd, 0, none⟩ = some (.func (.func 13) #[] #[]) ∧ w'.cell? ⟨ga, k * 2, none⟩ = some (.int .i64 a) ∧ w'.cell? ⟨ga, k * 2 + 1, none⟩ = some (.int .i64 b) ∧ w'.cell? ⟨gb, k * 2, none⟩ = some (.int .i64 c) ∧ w'.cell? ⟨gb, k * 2 + 1, none⟩ = some (.int .i64 d)) (simp (maxDischargeDepth := 8) [go_sem, World.cell?_alloc_past, ltk2, ltk3, ltk4, ltk5, ltk6, ltk7, ltk8, ltk9, *])
    ((go_at_call 13; with_reducible refine (A1 _).mono ?_; rintro e w' ⟨rfl, hb⟩; obtain ⟨l9, d9, rfl⟩ := toExt hb; clear hb))
  all_goals (try go_wp2)
  all_goals refine bodyPost_ret (by simp [results, Try.results121, go_sem, ext_cell, World.cell?_alloc_past, ltk2, ltk3, ltk4, ltk5, ltk6, ltk7, ltk8, ltk9, *]; try rfl) rfl ?_
  all_goals exact ⟨rfl, by (repeat (first | with_reducible exact b0 _ | (with_reducible refine bext ?_ _ _) | (with_reducible refine below_drewN ?_ _) | (with_reducible refine Below.drew ?_) | (with_reducible refine bal ?_ _) | (with_reducible refine bset ?_ (by first | omega | (simp <;> omega)) _)))⟩

end Go.Proofs.Ytbckjccbihnlnaa
