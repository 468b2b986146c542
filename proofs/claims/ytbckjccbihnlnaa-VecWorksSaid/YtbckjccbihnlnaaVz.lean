/-
  The law on vectors, walked.
-/
import Derived.Test.YtbckjccbihnlnaaVc
import Derived.Test.YtbckjccbihnlnaaVi
import Derived.Test.YtbckjccbihnlnaaVu
import Derived.Test.YtbckjccbihnlnaaVv
import Derived.Test.YtbckjccbihnlnaaVw
import Derived.Test.YtbckjccbihnlnaaVn
namespace Go.Proofs.Ytbckjccbihnlnaa
open Go.RowKit
set_option linter.unusedVariables false
set_option linter.unusedSimpArgs false

set_option maxRecDepth 100000 in
set_option maxHeartbeats 12800000 in
theorem works_walk (a b c d e f g h i j k l s t : Int) (p1 : okC a b) (p2 : okC c d) (p3 : okC e f) (q1 : okC g h) (q2 : okC i j) (q3 : okC k l) (r1 : okC s t) (w : World) :
    Calls Try.prog 6 #[.agg #[.int .i64 a, .int .i64 b, .int .i64 c, .int .i64 d, .int .i64 e, .int .i64 f], .agg #[.int .i64 g, .int .i64 h, .int .i64 i, .int .i64 j, .int .i64 k, .int .i64 l], .agg #[.int .i64 s, .int .i64 t]] w fun e w' => e = .returned (.bool true) ∧ Below w.heap.size w w' := by
  have A0 := fun w => vec_Add a b c d e f g h i j k l p1 p2 p3 q1 q2 q3 w
  have R0 := fun w => ref2_Add a b c d e f g h i j k l p1 p2 p3 q1 q2 q3 w
  have A1 := fun w => vec_Sub a b c d e f g h i j k l p1 p2 p3 q1 q2 q3 w
  have R1 := fun w => ref2_Sub a b c d e f g h i j k l p1 p2 p3 q1 q2 q3 w
  have A2 := fun w => vec_Scale a b c d e f s t p1 p2 p3 r1 w
  have R2 := fun w => ref2_Scale a b c d e f s t p1 p2 p3 r1 w
  have A3 := fun w => vec_Dot a b c d e f g h i j k l p1 p2 p3 q1 q2 q3 w
  have R3 := fun w => ref2_Dot a b c d e f g h i j k l p1 p2 p3 q1 q2 q3 w
  have A4 := fun w => vec_Cross a b c d e f g h i j k l p1 p2 p3 q1 q2 q3 w
  have R4 := fun w => ref2_Cross a b c d e f g h i j k l p1 p2 p3 q1 q2 q3 w
  have C1 := fun w => vec_Check a b c d e f p1 p2 p3 w
  have C2 := fun w => ref2_Check a b c d e f p1 p2 p3 w
  have be0 := wrapE (vaE_e a b c d e f g h i j k l)
  have be1 := wrapE (vaE_e a b c d e f (-g) h (-i) j (-k) l)
  have be2 := wrapE (vmE_e a b c d e f s t)
  have be3 := wrapE (dtE_e a b c d e f g h i j k l)
  have be4 := wrapE (crE_e a b c d e f g h i j k l)
  have be9 := wrapE (chV_e a b c d e f)
  generalize vz (vaE a b c d e f g h i j k l) (adN a b g h) = X00 at *
  generalize vz (vaE a b c d e f g h i j k l) (adD a b g h) = X01 at *
  generalize vz (vaE a b c d e f g h i j k l) (adN c d i j) = X02 at *
  generalize vz (vaE a b c d e f g h i j k l) (adD c d i j) = X03 at *
  generalize vz (vaE a b c d e f g h i j k l) (adN e f k l) = X04 at *
  generalize vz (vaE a b c d e f g h i j k l) (adD e f k l) = X05 at *
  generalize vaE a b c d e f g h i j k l = E0 at *
  generalize vz (vaE a b c d e f (-g) h (-i) j (-k) l) (adN a b (-g) h) = X10 at *
  generalize vz (vaE a b c d e f (-g) h (-i) j (-k) l) (adD a b (-g) h) = X11 at *
  generalize vz (vaE a b c d e f (-g) h (-i) j (-k) l) (adN c d (-i) j) = X12 at *
  generalize vz (vaE a b c d e f (-g) h (-i) j (-k) l) (adD c d (-i) j) = X13 at *
  generalize vz (vaE a b c d e f (-g) h (-i) j (-k) l) (adN e f (-k) l) = X14 at *
  generalize vz (vaE a b c d e f (-g) h (-i) j (-k) l) (adD e f (-k) l) = X15 at *
  generalize vaE a b c d e f (-g) h (-i) j (-k) l = E1 at *
  generalize vz (vmE a b c d e f s t) (muN a b s t) = X20 at *
  generalize vz (vmE a b c d e f s t) (muD a b s t) = X21 at *
  generalize vz (vmE a b c d e f s t) (muN c d s t) = X22 at *
  generalize vz (vmE a b c d e f s t) (muD c d s t) = X23 at *
  generalize vz (vmE a b c d e f s t) (muN e f s t) = X24 at *
  generalize vz (vmE a b c d e f s t) (muD e f s t) = X25 at *
  generalize vmE a b c d e f s t = E2 at *
  generalize dtN a b c d e f g h i j k l = X30 at *
  generalize dtD a b c d e f g h i j k l = X31 at *
  generalize dtE a b c d e f g h i j k l = E3 at *
  generalize vz (crE a b c d e f g h i j k l) (twN c d k l (-e) f i j) = X40 at *
  generalize vz (crE a b c d e f g h i j k l) (twD c d k l (-e) f i j) = X41 at *
  generalize vz (crE a b c d e f g h i j k l) (twN e f g h (-a) b k l) = X42 at *
  generalize vz (crE a b c d e f g h i j k l) (twD e f g h (-a) b k l) = X43 at *
  generalize vz (crE a b c d e f g h i j k l) (twN a b i j (-c) d g h) = X44 at *
  generalize vz (crE a b c d e f g h i j k l) (twD a b i j (-c) d g h) = X45 at *
  generalize crE a b c d e f g h i j k l = E4 at *
  generalize chV a b c d e f = E9 at *
  clear p1 p2 p3 q1 q2 q3 r1
  have dAl := dAl; have dSt := dSt; have xC := ext_cell; have xF := ext_frozen; have xS := ext_set; have xN := ext_drewN; have xD := ext_drew; have xL := ext_lt; have xE := ext_ne; have xG := ext_nr; have xX := ext_ext; have xL1 := ext_lt1; have xL2 := ext_lt2; have xL3 := ext_lt3; have xM0 := ext_le0; have xM1 := ext_le1; have xM2 := ext_le2
  go_enter Try.func6, Try.ntmps6
  go_wp2_with fail
  with_reducible refine (A0 _).mono ?_
  rintro e w1 ⟨rfl, hb⟩
  have HB1 : Below w.heap.size w w1 := by
    refine Below.trans ?_ (hb.mono ?_)
    · (repeat (first | with_reducible exact b0 _ | (with_reducible refine bal ?_ _) | (with_reducible refine below_drewN ?_ _) | (with_reducible refine Below.drew ?_) | (with_reducible refine bset ?_ (by first | omega | (simp <;> omega)) _)))
    · first | omega | (simp <;> omega)
  have zs1 : w.heap.size + 3 < w1.heap.size + 1 := by have := hb.size; (try simp at this); omega
  have kv0 : w1.cell? ⟨w.heap.size, 0, none⟩ = some (.int .i64 a) := (hb.cell (by first | omega | (simp <;> omega))).trans (by (simp (maxDischargeDepth := 8) [go_sem, World.cell?_alloc_past, ltk2, ltk3, ltk4, ltk5, ltk6, ltk7, ltk8, ltk9, *]))
  have kv1 : w1.cell? ⟨w.heap.size, 1, none⟩ = some (.int .i64 b) := (hb.cell (by first | omega | (simp <;> omega))).trans (by (simp (maxDischargeDepth := 8) [go_sem, World.cell?_alloc_past, ltk2, ltk3, ltk4, ltk5, ltk6, ltk7, ltk8, ltk9, *]))
  have kv2 : w1.cell? ⟨w.heap.size, 2, none⟩ = some (.int .i64 c) := (hb.cell (by first | omega | (simp <;> omega))).trans (by (simp (maxDischargeDepth := 8) [go_sem, World.cell?_alloc_past, ltk2, ltk3, ltk4, ltk5, ltk6, ltk7, ltk8, ltk9, *]))
  have kv3 : w1.cell? ⟨w.heap.size, 3, none⟩ = some (.int .i64 d) := (hb.cell (by first | omega | (simp <;> omega))).trans (by (simp (maxDischargeDepth := 8) [go_sem, World.cell?_alloc_past, ltk2, ltk3, ltk4, ltk5, ltk6, ltk7, ltk8, ltk9, *]))
  have kv4 : w1.cell? ⟨w.heap.size, 4, none⟩ = some (.int .i64 e) := (hb.cell (by first | omega | (simp <;> omega))).trans (by (simp (maxDischargeDepth := 8) [go_sem, World.cell?_alloc_past, ltk2, ltk3, ltk4, ltk5, ltk6, ltk7, ltk8, ltk9, *]))
  have kv5 : w1.cell? ⟨w.heap.size, 5, none⟩ = some (.int .i64 f) := (hb.cell (by first | omega | (simp <;> omega))).trans (by (simp (maxDischargeDepth := 8) [go_sem, World.cell?_alloc_past, ltk2, ltk3, ltk4, ltk5, ltk6, ltk7, ltk8, ltk9, *]))
  have kw0 : w1.cell? ⟨w.heap.size + 1, 0, none⟩ = some (.int .i64 g) := (hb.cell (by first | omega | (simp <;> omega))).trans (by (simp (maxDischargeDepth := 8) [go_sem, World.cell?_alloc_past, ltk2, ltk3, ltk4, ltk5, ltk6, ltk7, ltk8, ltk9, *]))
  have kw1 : w1.cell? ⟨w.heap.size + 1, 1, none⟩ = some (.int .i64 h) := (hb.cell (by first | omega | (simp <;> omega))).trans (by (simp (maxDischargeDepth := 8) [go_sem, World.cell?_alloc_past, ltk2, ltk3, ltk4, ltk5, ltk6, ltk7, ltk8, ltk9, *]))
  have kw2 : w1.cell? ⟨w.heap.size + 1, 2, none⟩ = some (.int .i64 i) := (hb.cell (by first | omega | (simp <;> omega))).trans (by (simp (maxDischargeDepth := 8) [go_sem, World.cell?_alloc_past, ltk2, ltk3, ltk4, ltk5, ltk6, ltk7, ltk8, ltk9, *]))
  have kw3 : w1.cell? ⟨w.heap.size + 1, 3, none⟩ = some (.int .i64 j) := (hb.cell (by first | omega | (simp <;> omega))).trans (by (simp (maxDischargeDepth := 8) [go_sem, World.cell?_alloc_past, ltk2, ltk3, ltk4, ltk5, ltk6, ltk7, ltk8, ltk9, *]))
  have kw4 : w1.cell? ⟨w.heap.size + 1, 4, none⟩ = some (.int .i64 k) := (hb.cell (by first | omega | (simp <;> omega))).trans (by (simp (maxDischargeDepth := 8) [go_sem, World.cell?_alloc_past, ltk2, ltk3, ltk4, ltk5, ltk6, ltk7, ltk8, ltk9, *]))
  have kw5 : w1.cell? ⟨w.heap.size + 1, 5, none⟩ = some (.int .i64 l) := (hb.cell (by first | omega | (simp <;> omega))).trans (by (simp (maxDischargeDepth := 8) [go_sem, World.cell?_alloc_past, ltk2, ltk3, ltk4, ltk5, ltk6, ltk7, ltk8, ltk9, *]))
  have kf0 : w1.cell? ⟨w.heap.size + 1 + 1, 0, none⟩ = some (.int .i64 s) := (hb.cell (by first | omega | (simp <;> omega))).trans (by (simp (maxDischargeDepth := 8) [go_sem, World.cell?_alloc_past, ltk2, ltk3, ltk4, ltk5, ltk6, ltk7, ltk8, ltk9, *]))
  have kf1 : w1.cell? ⟨w.heap.size + 1 + 1, 1, none⟩ = some (.int .i64 t) := (hb.cell (by first | omega | (simp <;> omega))).trans (by (simp (maxDischargeDepth := 8) [go_sem, World.cell?_alloc_past, ltk2, ltk3, ltk4, ltk5, ltk6, ltk7, ltk8, ltk9, *]))
  clear hb
  have zy0_1 : w.heap.size < w1.heap.size := by omega
  have zy1_1 : w.heap.size + 1 < w1.heap.size := by omega
  have zy2_1 : w.heap.size + 1 + 1 < w1.heap.size := by omega
  go_wp2_with fail
  with_reducible refine (R0 _).mono ?_
  rintro e w2 ⟨rfl, hb⟩
  have HB2 : Below w.heap.size w w2 := by
    refine Below.trans ?_ (hb.mono ?_)
    · (repeat (first | with_reducible exact HB1 | (with_reducible refine bal ?_ _) | (with_reducible refine below_drewN ?_ _) | (with_reducible refine Below.drew ?_) | (with_reducible refine bset ?_ (by first | omega | (simp <;> omega)) _)))
    · first | omega | (simp <;> omega)
  have zs2 : w1.heap.size + 1 < w2.heap.size + 1 := by have := hb.size; (try simp at this); omega
  replace kv0 : w2.cell? ⟨w.heap.size, 0, none⟩ = some (.int .i64 a) := (hb.cell (by first | omega | (simp <;> omega))).trans (by (simp (maxDischargeDepth := 8) [go_sem, World.cell?_alloc_past, ltk2, ltk3, ltk4, ltk5, ltk6, ltk7, ltk8, ltk9, *]))
  replace kv1 : w2.cell? ⟨w.heap.size, 1, none⟩ = some (.int .i64 b) := (hb.cell (by first | omega | (simp <;> omega))).trans (by (simp (maxDischargeDepth := 8) [go_sem, World.cell?_alloc_past, ltk2, ltk3, ltk4, ltk5, ltk6, ltk7, ltk8, ltk9, *]))
  replace kv2 : w2.cell? ⟨w.heap.size, 2, none⟩ = some (.int .i64 c) := (hb.cell (by first | omega | (simp <;> omega))).trans (by (simp (maxDischargeDepth := 8) [go_sem, World.cell?_alloc_past, ltk2, ltk3, ltk4, ltk5, ltk6, ltk7, ltk8, ltk9, *]))
  replace kv3 : w2.cell? ⟨w.heap.size, 3, none⟩ = some (.int .i64 d) := (hb.cell (by first | omega | (simp <;> omega))).trans (by (simp (maxDischargeDepth := 8) [go_sem, World.cell?_alloc_past, ltk2, ltk3, ltk4, ltk5, ltk6, ltk7, ltk8, ltk9, *]))
  replace kv4 : w2.cell? ⟨w.heap.size, 4, none⟩ = some (.int .i64 e) := (hb.cell (by first | omega | (simp <;> omega))).trans (by (simp (maxDischargeDepth := 8) [go_sem, World.cell?_alloc_past, ltk2, ltk3, ltk4, ltk5, ltk6, ltk7, ltk8, ltk9, *]))
  replace kv5 : w2.cell? ⟨w.heap.size, 5, none⟩ = some (.int .i64 f) := (hb.cell (by first | omega | (simp <;> omega))).trans (by (simp (maxDischargeDepth := 8) [go_sem, World.cell?_alloc_past, ltk2, ltk3, ltk4, ltk5, ltk6, ltk7, ltk8, ltk9, *]))
  replace kw0 : w2.cell? ⟨w.heap.size + 1, 0, none⟩ = some (.int .i64 g) := (hb.cell (by first | omega | (simp <;> omega))).trans (by (simp (maxDischargeDepth := 8) [go_sem, World.cell?_alloc_past, ltk2, ltk3, ltk4, ltk5, ltk6, ltk7, ltk8, ltk9, *]))
  replace kw1 : w2.cell? ⟨w.heap.size + 1, 1, none⟩ = some (.int .i64 h) := (hb.cell (by first | omega | (simp <;> omega))).trans (by (simp (maxDischargeDepth := 8) [go_sem, World.cell?_alloc_past, ltk2, ltk3, ltk4, ltk5, ltk6, ltk7, ltk8, ltk9, *]))
  replace kw2 : w2.cell? ⟨w.heap.size + 1, 2, none⟩ = some (.int .i64 i) := (hb.cell (by first | omega | (simp <;> omega))).trans (by (simp (maxDischargeDepth := 8) [go_sem, World.cell?_alloc_past, ltk2, ltk3, ltk4, ltk5, ltk6, ltk7, ltk8, ltk9, *]))
  replace kw3 : w2.cell? ⟨w.heap.size + 1, 3, none⟩ = some (.int .i64 j) := (hb.cell (by first | omega | (simp <;> omega))).trans (by (simp (maxDischargeDepth := 8) [go_sem, World.cell?_alloc_past, ltk2, ltk3, ltk4, ltk5, ltk6, ltk7, ltk8, ltk9, *]))
  replace kw4 : w2.cell? ⟨w.heap.size + 1, 4, none⟩ = some (.int .i64 k) := (hb.cell (by first | omega | (simp <;> omega))).trans (by (simp (maxDischargeDepth := 8) [go_sem, World.cell?_alloc_past, ltk2, ltk3, ltk4, ltk5, ltk6, ltk7, ltk8, ltk9, *]))
  replace kw5 : w2.cell? ⟨w.heap.size + 1, 5, none⟩ = some (.int .i64 l) := (hb.cell (by first | omega | (simp <;> omega))).trans (by (simp (maxDischargeDepth := 8) [go_sem, World.cell?_alloc_past, ltk2, ltk3, ltk4, ltk5, ltk6, ltk7, ltk8, ltk9, *]))
  replace kf0 : w2.cell? ⟨w.heap.size + 1 + 1, 0, none⟩ = some (.int .i64 s) := (hb.cell (by first | omega | (simp <;> omega))).trans (by (simp (maxDischargeDepth := 8) [go_sem, World.cell?_alloc_past, ltk2, ltk3, ltk4, ltk5, ltk6, ltk7, ltk8, ltk9, *]))
  replace kf1 : w2.cell? ⟨w.heap.size + 1 + 1, 1, none⟩ = some (.int .i64 t) := (hb.cell (by first | omega | (simp <;> omega))).trans (by (simp (maxDischargeDepth := 8) [go_sem, World.cell?_alloc_past, ltk2, ltk3, ltk4, ltk5, ltk6, ltk7, ltk8, ltk9, *]))
  have r1_0 : w2.cell? ⟨w1.heap.size, 0, none⟩ = some (.int .i64 X00) := (hb.cell (by first | omega | (simp <;> omega))).trans (by (simp (maxDischargeDepth := 8) [go_sem, World.cell?_alloc_past, ltk2, ltk3, ltk4, ltk5, ltk6, ltk7, ltk8, ltk9, *]))
  have r1_1 : w2.cell? ⟨w1.heap.size, 1, none⟩ = some (.int .i64 X01) := (hb.cell (by first | omega | (simp <;> omega))).trans (by (simp (maxDischargeDepth := 8) [go_sem, World.cell?_alloc_past, ltk2, ltk3, ltk4, ltk5, ltk6, ltk7, ltk8, ltk9, *]))
  have r1_2 : w2.cell? ⟨w1.heap.size, 2, none⟩ = some (.int .i64 X02) := (hb.cell (by first | omega | (simp <;> omega))).trans (by (simp (maxDischargeDepth := 8) [go_sem, World.cell?_alloc_past, ltk2, ltk3, ltk4, ltk5, ltk6, ltk7, ltk8, ltk9, *]))
  have r1_3 : w2.cell? ⟨w1.heap.size, 3, none⟩ = some (.int .i64 X03) := (hb.cell (by first | omega | (simp <;> omega))).trans (by (simp (maxDischargeDepth := 8) [go_sem, World.cell?_alloc_past, ltk2, ltk3, ltk4, ltk5, ltk6, ltk7, ltk8, ltk9, *]))
  have r1_4 : w2.cell? ⟨w1.heap.size, 4, none⟩ = some (.int .i64 X04) := (hb.cell (by first | omega | (simp <;> omega))).trans (by (simp (maxDischargeDepth := 8) [go_sem, World.cell?_alloc_past, ltk2, ltk3, ltk4, ltk5, ltk6, ltk7, ltk8, ltk9, *]))
  have r1_5 : w2.cell? ⟨w1.heap.size, 5, none⟩ = some (.int .i64 X05) := (hb.cell (by first | omega | (simp <;> omega))).trans (by (simp (maxDischargeDepth := 8) [go_sem, World.cell?_alloc_past, ltk2, ltk3, ltk4, ltk5, ltk6, ltk7, ltk8, ltk9, *]))
  clear hb HB1
  have zy0_2 : w.heap.size < w2.heap.size := by omega
  have zy1_2 : w.heap.size + 1 < w2.heap.size := by omega
  have zy2_2 : w.heap.size + 1 + 1 < w2.heap.size := by omega
  have zz_w1_2 : w1.heap.size < w2.heap.size := by omega
  go_wp2_with fail
  with_reducible refine (A1 _).mono ?_
  rintro e w3 ⟨rfl, hb⟩
  have HB3 : Below w.heap.size w w3 := by
    refine Below.trans ?_ (hb.mono ?_)
    · (repeat (first | with_reducible exact HB2 | (with_reducible refine bal ?_ _) | (with_reducible refine below_drewN ?_ _) | (with_reducible refine Below.drew ?_) | (with_reducible refine bset ?_ (by first | omega | (simp <;> omega)) _)))
    · first | omega | (simp <;> omega)
  have zs3 : w2.heap.size + 1 < w3.heap.size + 1 := by have := hb.size; (try simp at this); omega
  replace kv0 : w3.cell? ⟨w.heap.size, 0, none⟩ = some (.int .i64 a) := (hb.cell (by first | omega | (simp <;> omega))).trans (by (simp (maxDischargeDepth := 8) [go_sem, World.cell?_alloc_past, ltk2, ltk3, ltk4, ltk5, ltk6, ltk7, ltk8, ltk9, *]))
  replace kv1 : w3.cell? ⟨w.heap.size, 1, none⟩ = some (.int .i64 b) := (hb.cell (by first | omega | (simp <;> omega))).trans (by (simp (maxDischargeDepth := 8) [go_sem, World.cell?_alloc_past, ltk2, ltk3, ltk4, ltk5, ltk6, ltk7, ltk8, ltk9, *]))
  replace kv2 : w3.cell? ⟨w.heap.size, 2, none⟩ = some (.int .i64 c) := (hb.cell (by first | omega | (simp <;> omega))).trans (by (simp (maxDischargeDepth := 8) [go_sem, World.cell?_alloc_past, ltk2, ltk3, ltk4, ltk5, ltk6, ltk7, ltk8, ltk9, *]))
  replace kv3 : w3.cell? ⟨w.heap.size, 3, none⟩ = some (.int .i64 d) := (hb.cell (by first | omega | (simp <;> omega))).trans (by (simp (maxDischargeDepth := 8) [go_sem, World.cell?_alloc_past, ltk2, ltk3, ltk4, ltk5, ltk6, ltk7, ltk8, ltk9, *]))
  replace kv4 : w3.cell? ⟨w.heap.size, 4, none⟩ = some (.int .i64 e) := (hb.cell (by first | omega | (simp <;> omega))).trans (by (simp (maxDischargeDepth := 8) [go_sem, World.cell?_alloc_past, ltk2, ltk3, ltk4, ltk5, ltk6, ltk7, ltk8, ltk9, *]))
  replace kv5 : w3.cell? ⟨w.heap.size, 5, none⟩ = some (.int .i64 f) := (hb.cell (by first | omega | (simp <;> omega))).trans (by (simp (maxDischargeDepth := 8) [go_sem, World.cell?_alloc_past, ltk2, ltk3, ltk4, ltk5, ltk6, ltk7, ltk8, ltk9, *]))
  replace kw0 : w3.cell? ⟨w.heap.size + 1, 0, none⟩ = some (.int .i64 g) := (hb.cell (by first | omega | (simp <;> omega))).trans (by (simp (maxDischargeDepth := 8) [go_sem, World.cell?_alloc_past, ltk2, ltk3, ltk4, ltk5, ltk6, ltk7, ltk8, ltk9, *]))
  replace kw1 : w3.cell? ⟨w.heap.size + 1, 1, none⟩ = some (.int .i64 h) := (hb.cell (by first | omega | (simp <;> omega))).trans (by (simp (maxDischargeDepth := 8) [go_sem, World.cell?_alloc_past, ltk2, ltk3, ltk4, ltk5, ltk6, ltk7, ltk8, ltk9, *]))
  replace kw2 : w3.cell? ⟨w.heap.size + 1, 2, none⟩ = some (.int .i64 i) := (hb.cell (by first | omega | (simp <;> omega))).trans (by (simp (maxDischargeDepth := 8) [go_sem, World.cell?_alloc_past, ltk2, ltk3, ltk4, ltk5, ltk6, ltk7, ltk8, ltk9, *]))
  replace kw3 : w3.cell? ⟨w.heap.size + 1, 3, none⟩ = some (.int .i64 j) := (hb.cell (by first | omega | (simp <;> omega))).trans (by (simp (maxDischargeDepth := 8) [go_sem, World.cell?_alloc_past, ltk2, ltk3, ltk4, ltk5, ltk6, ltk7, ltk8, ltk9, *]))
  replace kw4 : w3.cell? ⟨w.heap.size + 1, 4, none⟩ = some (.int .i64 k) := (hb.cell (by first | omega | (simp <;> omega))).trans (by (simp (maxDischargeDepth := 8) [go_sem, World.cell?_alloc_past, ltk2, ltk3, ltk4, ltk5, ltk6, ltk7, ltk8, ltk9, *]))
  replace kw5 : w3.cell? ⟨w.heap.size + 1, 5, none⟩ = some (.int .i64 l) := (hb.cell (by first | omega | (simp <;> omega))).trans (by (simp (maxDischargeDepth := 8) [go_sem, World.cell?_alloc_past, ltk2, ltk3, ltk4, ltk5, ltk6, ltk7, ltk8, ltk9, *]))
  replace kf0 : w3.cell? ⟨w.heap.size + 1 + 1, 0, none⟩ = some (.int .i64 s) := (hb.cell (by first | omega | (simp <;> omega))).trans (by (simp (maxDischargeDepth := 8) [go_sem, World.cell?_alloc_past, ltk2, ltk3, ltk4, ltk5, ltk6, ltk7, ltk8, ltk9, *]))
  replace kf1 : w3.cell? ⟨w.heap.size + 1 + 1, 1, none⟩ = some (.int .i64 t) := (hb.cell (by first | omega | (simp <;> omega))).trans (by (simp (maxDischargeDepth := 8) [go_sem, World.cell?_alloc_past, ltk2, ltk3, ltk4, ltk5, ltk6, ltk7, ltk8, ltk9, *]))
  replace r1_0 : w3.cell? ⟨w1.heap.size, 0, none⟩ = some (.int .i64 X00) := (hb.cell (by first | omega | (simp <;> omega))).trans (by (simp (maxDischargeDepth := 8) [go_sem, World.cell?_alloc_past, ltk2, ltk3, ltk4, ltk5, ltk6, ltk7, ltk8, ltk9, *]))
  replace r1_1 : w3.cell? ⟨w1.heap.size, 1, none⟩ = some (.int .i64 X01) := (hb.cell (by first | omega | (simp <;> omega))).trans (by (simp (maxDischargeDepth := 8) [go_sem, World.cell?_alloc_past, ltk2, ltk3, ltk4, ltk5, ltk6, ltk7, ltk8, ltk9, *]))
  replace r1_2 : w3.cell? ⟨w1.heap.size, 2, none⟩ = some (.int .i64 X02) := (hb.cell (by first | omega | (simp <;> omega))).trans (by (simp (maxDischargeDepth := 8) [go_sem, World.cell?_alloc_past, ltk2, ltk3, ltk4, ltk5, ltk6, ltk7, ltk8, ltk9, *]))
  replace r1_3 : w3.cell? ⟨w1.heap.size, 3, none⟩ = some (.int .i64 X03) := (hb.cell (by first | omega | (simp <;> omega))).trans (by (simp (maxDischargeDepth := 8) [go_sem, World.cell?_alloc_past, ltk2, ltk3, ltk4, ltk5, ltk6, ltk7, ltk8, ltk9, *]))
  replace r1_4 : w3.cell? ⟨w1.heap.size, 4, none⟩ = some (.int .i64 X04) := (hb.cell (by first | omega | (simp <;> omega))).trans (by (simp (maxDischargeDepth := 8) [go_sem, World.cell?_alloc_past, ltk2, ltk3, ltk4, ltk5, ltk6, ltk7, ltk8, ltk9, *]))
  replace r1_5 : w3.cell? ⟨w1.heap.size, 5, none⟩ = some (.int .i64 X05) := (hb.cell (by first | omega | (simp <;> omega))).trans (by (simp (maxDischargeDepth := 8) [go_sem, World.cell?_alloc_past, ltk2, ltk3, ltk4, ltk5, ltk6, ltk7, ltk8, ltk9, *]))
  have r2_0 : w3.cell? ⟨w2.heap.size, 0, none⟩ = some (.int .i64 X00) := (hb.cell (by first | omega | (simp <;> omega))).trans (by (simp (maxDischargeDepth := 8) [go_sem, World.cell?_alloc_past, ltk2, ltk3, ltk4, ltk5, ltk6, ltk7, ltk8, ltk9, *]))
  have r2_1 : w3.cell? ⟨w2.heap.size, 1, none⟩ = some (.int .i64 X01) := (hb.cell (by first | omega | (simp <;> omega))).trans (by (simp (maxDischargeDepth := 8) [go_sem, World.cell?_alloc_past, ltk2, ltk3, ltk4, ltk5, ltk6, ltk7, ltk8, ltk9, *]))
  have r2_2 : w3.cell? ⟨w2.heap.size, 2, none⟩ = some (.int .i64 X02) := (hb.cell (by first | omega | (simp <;> omega))).trans (by (simp (maxDischargeDepth := 8) [go_sem, World.cell?_alloc_past, ltk2, ltk3, ltk4, ltk5, ltk6, ltk7, ltk8, ltk9, *]))
  have r2_3 : w3.cell? ⟨w2.heap.size, 3, none⟩ = some (.int .i64 X03) := (hb.cell (by first | omega | (simp <;> omega))).trans (by (simp (maxDischargeDepth := 8) [go_sem, World.cell?_alloc_past, ltk2, ltk3, ltk4, ltk5, ltk6, ltk7, ltk8, ltk9, *]))
  have r2_4 : w3.cell? ⟨w2.heap.size, 4, none⟩ = some (.int .i64 X04) := (hb.cell (by first | omega | (simp <;> omega))).trans (by (simp (maxDischargeDepth := 8) [go_sem, World.cell?_alloc_past, ltk2, ltk3, ltk4, ltk5, ltk6, ltk7, ltk8, ltk9, *]))
  have r2_5 : w3.cell? ⟨w2.heap.size, 5, none⟩ = some (.int .i64 X05) := (hb.cell (by first | omega | (simp <;> omega))).trans (by (simp (maxDischargeDepth := 8) [go_sem, World.cell?_alloc_past, ltk2, ltk3, ltk4, ltk5, ltk6, ltk7, ltk8, ltk9, *]))
  clear hb HB2
  have zy0_3 : w.heap.size < w3.heap.size := by omega
  have zy1_3 : w.heap.size + 1 < w3.heap.size := by omega
  have zy2_3 : w.heap.size + 1 + 1 < w3.heap.size := by omega
  have zz_w1_3 : w1.heap.size < w3.heap.size := by omega
  have zz_w2_3 : w2.heap.size < w3.heap.size := by omega
  go_wp2_with fail
  with_reducible refine (R1 _).mono ?_
  rintro e w4 ⟨rfl, hb⟩
  have HB4 : Below w.heap.size w w4 := by
    refine Below.trans ?_ (hb.mono ?_)
    · (repeat (first | with_reducible exact HB3 | (with_reducible refine bal ?_ _) | (with_reducible refine below_drewN ?_ _) | (with_reducible refine Below.drew ?_) | (with_reducible refine bset ?_ (by first | omega | (simp <;> omega)) _)))
    · first | omega | (simp <;> omega)
  have zs4 : w3.heap.size + 1 < w4.heap.size + 1 := by have := hb.size; (try simp at this); omega
  replace kv0 : w4.cell? ⟨w.heap.size, 0, none⟩ = some (.int .i64 a) := (hb.cell (by first | omega | (simp <;> omega))).trans (by (simp (maxDischargeDepth := 8) [go_sem, World.cell?_alloc_past, ltk2, ltk3, ltk4, ltk5, ltk6, ltk7, ltk8, ltk9, *]))
  replace kv1 : w4.cell? ⟨w.heap.size, 1, none⟩ = some (.int .i64 b) := (hb.cell (by first | omega | (simp <;> omega))).trans (by (simp (maxDischargeDepth := 8) [go_sem, World.cell?_alloc_past, ltk2, ltk3, ltk4, ltk5, ltk6, ltk7, ltk8, ltk9, *]))
  replace kv2 : w4.cell? ⟨w.heap.size, 2, none⟩ = some (.int .i64 c) := (hb.cell (by first | omega | (simp <;> omega))).trans (by (simp (maxDischargeDepth := 8) [go_sem, World.cell?_alloc_past, ltk2, ltk3, ltk4, ltk5, ltk6, ltk7, ltk8, ltk9, *]))
  replace kv3 : w4.cell? ⟨w.heap.size, 3, none⟩ = some (.int .i64 d) := (hb.cell (by first | omega | (simp <;> omega))).trans (by (simp (maxDischargeDepth := 8) [go_sem, World.cell?_alloc_past, ltk2, ltk3, ltk4, ltk5, ltk6, ltk7, ltk8, ltk9, *]))
  replace kv4 : w4.cell? ⟨w.heap.size, 4, none⟩ = some (.int .i64 e) := (hb.cell (by first | omega | (simp <;> omega))).trans (by (simp (maxDischargeDepth := 8) [go_sem, World.cell?_alloc_past, ltk2, ltk3, ltk4, ltk5, ltk6, ltk7, ltk8, ltk9, *]))
  replace kv5 : w4.cell? ⟨w.heap.size, 5, none⟩ = some (.int .i64 f) := (hb.cell (by first | omega | (simp <;> omega))).trans (by (simp (maxDischargeDepth := 8) [go_sem, World.cell?_alloc_past, ltk2, ltk3, ltk4, ltk5, ltk6, ltk7, ltk8, ltk9, *]))
  replace kw0 : w4.cell? ⟨w.heap.size + 1, 0, none⟩ = some (.int .i64 g) := (hb.cell (by first | omega | (simp <;> omega))).trans (by (simp (maxDischargeDepth := 8) [go_sem, World.cell?_alloc_past, ltk2, ltk3, ltk4, ltk5, ltk6, ltk7, ltk8, ltk9, *]))
  replace kw1 : w4.cell? ⟨w.heap.size + 1, 1, none⟩ = some (.int .i64 h) := (hb.cell (by first | omega | (simp <;> omega))).trans (by (simp (maxDischargeDepth := 8) [go_sem, World.cell?_alloc_past, ltk2, ltk3, ltk4, ltk5, ltk6, ltk7, ltk8, ltk9, *]))
  replace kw2 : w4.cell? ⟨w.heap.size + 1, 2, none⟩ = some (.int .i64 i) := (hb.cell (by first | omega | (simp <;> omega))).trans (by (simp (maxDischargeDepth := 8) [go_sem, World.cell?_alloc_past, ltk2, ltk3, ltk4, ltk5, ltk6, ltk7, ltk8, ltk9, *]))
  replace kw3 : w4.cell? ⟨w.heap.size + 1, 3, none⟩ = some (.int .i64 j) := (hb.cell (by first | omega | (simp <;> omega))).trans (by (simp (maxDischargeDepth := 8) [go_sem, World.cell?_alloc_past, ltk2, ltk3, ltk4, ltk5, ltk6, ltk7, ltk8, ltk9, *]))
  replace kw4 : w4.cell? ⟨w.heap.size + 1, 4, none⟩ = some (.int .i64 k) := (hb.cell (by first | omega | (simp <;> omega))).trans (by (simp (maxDischargeDepth := 8) [go_sem, World.cell?_alloc_past, ltk2, ltk3, ltk4, ltk5, ltk6, ltk7, ltk8, ltk9, *]))
  replace kw5 : w4.cell? ⟨w.heap.size + 1, 5, none⟩ = some (.int .i64 l) := (hb.cell (by first | omega | (simp <;> omega))).trans (by (simp (maxDischargeDepth := 8) [go_sem, World.cell?_alloc_past, ltk2, ltk3, ltk4, ltk5, ltk6, ltk7, ltk8, ltk9, *]))
  replace kf0 : w4.cell? ⟨w.heap.size + 1 + 1, 0, none⟩ = some (.int .i64 s) := (hb.cell (by first | omega | (simp <;> omega))).trans (by (simp (maxDischargeDepth := 8) [go_sem, World.cell?_alloc_past, ltk2, ltk3, ltk4, ltk5, ltk6, ltk7, ltk8, ltk9, *]))
  replace kf1 : w4.cell? ⟨w.heap.size + 1 + 1, 1, none⟩ = some (.int .i64 t) := (hb.cell (by first | omega | (simp <;> omega))).trans (by (simp (maxDischargeDepth := 8) [go_sem, World.cell?_alloc_past, ltk2, ltk3, ltk4, ltk5, ltk6, ltk7, ltk8, ltk9, *]))
  replace r1_0 : w4.cell? ⟨w1.heap.size, 0, none⟩ = some (.int .i64 X00) := (hb.cell (by first | omega | (simp <;> omega))).trans (by (simp (maxDischargeDepth := 8) [go_sem, World.cell?_alloc_past, ltk2, ltk3, ltk4, ltk5, ltk6, ltk7, ltk8, ltk9, *]))
  replace r1_1 : w4.cell? ⟨w1.heap.size, 1, none⟩ = some (.int .i64 X01) := (hb.cell (by first | omega | (simp <;> omega))).trans (by (simp (maxDischargeDepth := 8) [go_sem, World.cell?_alloc_past, ltk2, ltk3, ltk4, ltk5, ltk6, ltk7, ltk8, ltk9, *]))
  replace r1_2 : w4.cell? ⟨w1.heap.size, 2, none⟩ = some (.int .i64 X02) := (hb.cell (by first | omega | (simp <;> omega))).trans (by (simp (maxDischargeDepth := 8) [go_sem, World.cell?_alloc_past, ltk2, ltk3, ltk4, ltk5, ltk6, ltk7, ltk8, ltk9, *]))
  replace r1_3 : w4.cell? ⟨w1.heap.size, 3, none⟩ = some (.int .i64 X03) := (hb.cell (by first | omega | (simp <;> omega))).trans (by (simp (maxDischargeDepth := 8) [go_sem, World.cell?_alloc_past, ltk2, ltk3, ltk4, ltk5, ltk6, ltk7, ltk8, ltk9, *]))
  replace r1_4 : w4.cell? ⟨w1.heap.size, 4, none⟩ = some (.int .i64 X04) := (hb.cell (by first | omega | (simp <;> omega))).trans (by (simp (maxDischargeDepth := 8) [go_sem, World.cell?_alloc_past, ltk2, ltk3, ltk4, ltk5, ltk6, ltk7, ltk8, ltk9, *]))
  replace r1_5 : w4.cell? ⟨w1.heap.size, 5, none⟩ = some (.int .i64 X05) := (hb.cell (by first | omega | (simp <;> omega))).trans (by (simp (maxDischargeDepth := 8) [go_sem, World.cell?_alloc_past, ltk2, ltk3, ltk4, ltk5, ltk6, ltk7, ltk8, ltk9, *]))
  replace r2_0 : w4.cell? ⟨w2.heap.size, 0, none⟩ = some (.int .i64 X00) := (hb.cell (by first | omega | (simp <;> omega))).trans (by (simp (maxDischargeDepth := 8) [go_sem, World.cell?_alloc_past, ltk2, ltk3, ltk4, ltk5, ltk6, ltk7, ltk8, ltk9, *]))
  replace r2_1 : w4.cell? ⟨w2.heap.size, 1, none⟩ = some (.int .i64 X01) := (hb.cell (by first | omega | (simp <;> omega))).trans (by (simp (maxDischargeDepth := 8) [go_sem, World.cell?_alloc_past, ltk2, ltk3, ltk4, ltk5, ltk6, ltk7, ltk8, ltk9, *]))
  replace r2_2 : w4.cell? ⟨w2.heap.size, 2, none⟩ = some (.int .i64 X02) := (hb.cell (by first | omega | (simp <;> omega))).trans (by (simp (maxDischargeDepth := 8) [go_sem, World.cell?_alloc_past, ltk2, ltk3, ltk4, ltk5, ltk6, ltk7, ltk8, ltk9, *]))
  replace r2_3 : w4.cell? ⟨w2.heap.size, 3, none⟩ = some (.int .i64 X03) := (hb.cell (by first | omega | (simp <;> omega))).trans (by (simp (maxDischargeDepth := 8) [go_sem, World.cell?_alloc_past, ltk2, ltk3, ltk4, ltk5, ltk6, ltk7, ltk8, ltk9, *]))
  replace r2_4 : w4.cell? ⟨w2.heap.size, 4, none⟩ = some (.int .i64 X04) := (hb.cell (by first | omega | (simp <;> omega))).trans (by (simp (maxDischargeDepth := 8) [go_sem, World.cell?_alloc_past, ltk2, ltk3, ltk4, ltk5, ltk6, ltk7, ltk8, ltk9, *]))
  replace r2_5 : w4.cell? ⟨w2.heap.size, 5, none⟩ = some (.int .i64 X05) := (hb.cell (by first | omega | (simp <;> omega))).trans (by (simp (maxDischargeDepth := 8) [go_sem, World.cell?_alloc_past, ltk2, ltk3, ltk4, ltk5, ltk6, ltk7, ltk8, ltk9, *]))
  have r3_0 : w4.cell? ⟨w3.heap.size, 0, none⟩ = some (.int .i64 X10) := (hb.cell (by first | omega | (simp <;> omega))).trans (by (simp (maxDischargeDepth := 8) [go_sem, World.cell?_alloc_past, ltk2, ltk3, ltk4, ltk5, ltk6, ltk7, ltk8, ltk9, *]))
  have r3_1 : w4.cell? ⟨w3.heap.size, 1, none⟩ = some (.int .i64 X11) := (hb.cell (by first | omega | (simp <;> omega))).trans (by (simp (maxDischargeDepth := 8) [go_sem, World.cell?_alloc_past, ltk2, ltk3, ltk4, ltk5, ltk6, ltk7, ltk8, ltk9, *]))
  have r3_2 : w4.cell? ⟨w3.heap.size, 2, none⟩ = some (.int .i64 X12) := (hb.cell (by first | omega | (simp <;> omega))).trans (by (simp (maxDischargeDepth := 8) [go_sem, World.cell?_alloc_past, ltk2, ltk3, ltk4, ltk5, ltk6, ltk7, ltk8, ltk9, *]))
  have r3_3 : w4.cell? ⟨w3.heap.size, 3, none⟩ = some (.int .i64 X13) := (hb.cell (by first | omega | (simp <;> omega))).trans (by (simp (maxDischargeDepth := 8) [go_sem, World.cell?_alloc_past, ltk2, ltk3, ltk4, ltk5, ltk6, ltk7, ltk8, ltk9, *]))
  have r3_4 : w4.cell? ⟨w3.heap.size, 4, none⟩ = some (.int .i64 X14) := (hb.cell (by first | omega | (simp <;> omega))).trans (by (simp (maxDischargeDepth := 8) [go_sem, World.cell?_alloc_past, ltk2, ltk3, ltk4, ltk5, ltk6, ltk7, ltk8, ltk9, *]))
  have r3_5 : w4.cell? ⟨w3.heap.size, 5, none⟩ = some (.int .i64 X15) := (hb.cell (by first | omega | (simp <;> omega))).trans (by (simp (maxDischargeDepth := 8) [go_sem, World.cell?_alloc_past, ltk2, ltk3, ltk4, ltk5, ltk6, ltk7, ltk8, ltk9, *]))
  clear hb HB3
  have zy0_4 : w.heap.size < w4.heap.size := by omega
  have zy1_4 : w.heap.size + 1 < w4.heap.size := by omega
  have zy2_4 : w.heap.size + 1 + 1 < w4.heap.size := by omega
  have zz_w1_4 : w1.heap.size < w4.heap.size := by omega
  have zz_w2_4 : w2.heap.size < w4.heap.size := by omega
  have zz_w3_4 : w3.heap.size < w4.heap.size := by omega
  go_wp2_with fail
  with_reducible refine (A2 _).mono ?_
  rintro e w5 ⟨rfl, hb⟩
  have HB5 : Below w.heap.size w w5 := by
    refine Below.trans ?_ (hb.mono ?_)
    · (repeat (first | with_reducible exact HB4 | (with_reducible refine bal ?_ _) | (with_reducible refine below_drewN ?_ _) | (with_reducible refine Below.drew ?_) | (with_reducible refine bset ?_ (by first | omega | (simp <;> omega)) _)))
    · first | omega | (simp <;> omega)
  have zs5 : w4.heap.size + 1 < w5.heap.size + 1 := by have := hb.size; (try simp at this); omega
  replace kv0 : w5.cell? ⟨w.heap.size, 0, none⟩ = some (.int .i64 a) := (hb.cell (by first | omega | (simp <;> omega))).trans (by (simp (maxDischargeDepth := 8) [go_sem, World.cell?_alloc_past, ltk2, ltk3, ltk4, ltk5, ltk6, ltk7, ltk8, ltk9, *]))
  replace kv1 : w5.cell? ⟨w.heap.size, 1, none⟩ = some (.int .i64 b) := (hb.cell (by first | omega | (simp <;> omega))).trans (by (simp (maxDischargeDepth := 8) [go_sem, World.cell?_alloc_past, ltk2, ltk3, ltk4, ltk5, ltk6, ltk7, ltk8, ltk9, *]))
  replace kv2 : w5.cell? ⟨w.heap.size, 2, none⟩ = some (.int .i64 c) := (hb.cell (by first | omega | (simp <;> omega))).trans (by (simp (maxDischargeDepth := 8) [go_sem, World.cell?_alloc_past, ltk2, ltk3, ltk4, ltk5, ltk6, ltk7, ltk8, ltk9, *]))
  replace kv3 : w5.cell? ⟨w.heap.size, 3, none⟩ = some (.int .i64 d) := (hb.cell (by first | omega | (simp <;> omega))).trans (by (simp (maxDischargeDepth := 8) [go_sem, World.cell?_alloc_past, ltk2, ltk3, ltk4, ltk5, ltk6, ltk7, ltk8, ltk9, *]))
  replace kv4 : w5.cell? ⟨w.heap.size, 4, none⟩ = some (.int .i64 e) := (hb.cell (by first | omega | (simp <;> omega))).trans (by (simp (maxDischargeDepth := 8) [go_sem, World.cell?_alloc_past, ltk2, ltk3, ltk4, ltk5, ltk6, ltk7, ltk8, ltk9, *]))
  replace kv5 : w5.cell? ⟨w.heap.size, 5, none⟩ = some (.int .i64 f) := (hb.cell (by first | omega | (simp <;> omega))).trans (by (simp (maxDischargeDepth := 8) [go_sem, World.cell?_alloc_past, ltk2, ltk3, ltk4, ltk5, ltk6, ltk7, ltk8, ltk9, *]))
  replace kw0 : w5.cell? ⟨w.heap.size + 1, 0, none⟩ = some (.int .i64 g) := (hb.cell (by first | omega | (simp <;> omega))).trans (by (simp (maxDischargeDepth := 8) [go_sem, World.cell?_alloc_past, ltk2, ltk3, ltk4, ltk5, ltk6, ltk7, ltk8, ltk9, *]))
  replace kw1 : w5.cell? ⟨w.heap.size + 1, 1, none⟩ = some (.int .i64 h) := (hb.cell (by first | omega | (simp <;> omega))).trans (by (simp (maxDischargeDepth := 8) [go_sem, World.cell?_alloc_past, ltk2, ltk3, ltk4, ltk5, ltk6, ltk7, ltk8, ltk9, *]))
  replace kw2 : w5.cell? ⟨w.heap.size + 1, 2, none⟩ = some (.int .i64 i) := (hb.cell (by first | omega | (simp <;> omega))).trans (by (simp (maxDischargeDepth := 8) [go_sem, World.cell?_alloc_past, ltk2, ltk3, ltk4, ltk5, ltk6, ltk7, ltk8, ltk9, *]))
  replace kw3 : w5.cell? ⟨w.heap.size + 1, 3, none⟩ = some (.int .i64 j) := (hb.cell (by first | omega | (simp <;> omega))).trans (by (simp (maxDischargeDepth := 8) [go_sem, World.cell?_alloc_past, ltk2, ltk3, ltk4, ltk5, ltk6, ltk7, ltk8, ltk9, *]))
  replace kw4 : w5.cell? ⟨w.heap.size + 1, 4, none⟩ = some (.int .i64 k) := (hb.cell (by first | omega | (simp <;> omega))).trans (by (simp (maxDischargeDepth := 8) [go_sem, World.cell?_alloc_past, ltk2, ltk3, ltk4, ltk5, ltk6, ltk7, ltk8, ltk9, *]))
  replace kw5 : w5.cell? ⟨w.heap.size + 1, 5, none⟩ = some (.int .i64 l) := (hb.cell (by first | omega | (simp <;> omega))).trans (by (simp (maxDischargeDepth := 8) [go_sem, World.cell?_alloc_past, ltk2, ltk3, ltk4, ltk5, ltk6, ltk7, ltk8, ltk9, *]))
  replace kf0 : w5.cell? ⟨w.heap.size + 1 + 1, 0, none⟩ = some (.int .i64 s) := (hb.cell (by first | omega | (simp <;> omega))).trans (by (simp (maxDischargeDepth := 8) [go_sem, World.cell?_alloc_past, ltk2, ltk3, ltk4, ltk5, ltk6, ltk7, ltk8, ltk9, *]))
  replace kf1 : w5.cell? ⟨w.heap.size + 1 + 1, 1, none⟩ = some (.int .i64 t) := (hb.cell (by first | omega | (simp <;> omega))).trans (by (simp (maxDischargeDepth := 8) [go_sem, World.cell?_alloc_past, ltk2, ltk3, ltk4, ltk5, ltk6, ltk7, ltk8, ltk9, *]))
  replace r1_0 : w5.cell? ⟨w1.heap.size, 0, none⟩ = some (.int .i64 X00) := (hb.cell (by first | omega | (simp <;> omega))).trans (by (simp (maxDischargeDepth := 8) [go_sem, World.cell?_alloc_past, ltk2, ltk3, ltk4, ltk5, ltk6, ltk7, ltk8, ltk9, *]))
  replace r1_1 : w5.cell? ⟨w1.heap.size, 1, none⟩ = some (.int .i64 X01) := (hb.cell (by first | omega | (simp <;> omega))).trans (by (simp (maxDischargeDepth := 8) [go_sem, World.cell?_alloc_past, ltk2, ltk3, ltk4, ltk5, ltk6, ltk7, ltk8, ltk9, *]))
  replace r1_2 : w5.cell? ⟨w1.heap.size, 2, none⟩ = some (.int .i64 X02) := (hb.cell (by first | omega | (simp <;> omega))).trans (by (simp (maxDischargeDepth := 8) [go_sem, World.cell?_alloc_past, ltk2, ltk3, ltk4, ltk5, ltk6, ltk7, ltk8, ltk9, *]))
  replace r1_3 : w5.cell? ⟨w1.heap.size, 3, none⟩ = some (.int .i64 X03) := (hb.cell (by first | omega | (simp <;> omega))).trans (by (simp (maxDischargeDepth := 8) [go_sem, World.cell?_alloc_past, ltk2, ltk3, ltk4, ltk5, ltk6, ltk7, ltk8, ltk9, *]))
  replace r1_4 : w5.cell? ⟨w1.heap.size, 4, none⟩ = some (.int .i64 X04) := (hb.cell (by first | omega | (simp <;> omega))).trans (by (simp (maxDischargeDepth := 8) [go_sem, World.cell?_alloc_past, ltk2, ltk3, ltk4, ltk5, ltk6, ltk7, ltk8, ltk9, *]))
  replace r1_5 : w5.cell? ⟨w1.heap.size, 5, none⟩ = some (.int .i64 X05) := (hb.cell (by first | omega | (simp <;> omega))).trans (by (simp (maxDischargeDepth := 8) [go_sem, World.cell?_alloc_past, ltk2, ltk3, ltk4, ltk5, ltk6, ltk7, ltk8, ltk9, *]))
  replace r2_0 : w5.cell? ⟨w2.heap.size, 0, none⟩ = some (.int .i64 X00) := (hb.cell (by first | omega | (simp <;> omega))).trans (by (simp (maxDischargeDepth := 8) [go_sem, World.cell?_alloc_past, ltk2, ltk3, ltk4, ltk5, ltk6, ltk7, ltk8, ltk9, *]))
  replace r2_1 : w5.cell? ⟨w2.heap.size, 1, none⟩ = some (.int .i64 X01) := (hb.cell (by first | omega | (simp <;> omega))).trans (by (simp (maxDischargeDepth := 8) [go_sem, World.cell?_alloc_past, ltk2, ltk3, ltk4, ltk5, ltk6, ltk7, ltk8, ltk9, *]))
  replace r2_2 : w5.cell? ⟨w2.heap.size, 2, none⟩ = some (.int .i64 X02) := (hb.cell (by first | omega | (simp <;> omega))).trans (by (simp (maxDischargeDepth := 8) [go_sem, World.cell?_alloc_past, ltk2, ltk3, ltk4, ltk5, ltk6, ltk7, ltk8, ltk9, *]))
  replace r2_3 : w5.cell? ⟨w2.heap.size, 3, none⟩ = some (.int .i64 X03) := (hb.cell (by first | omega | (simp <;> omega))).trans (by (simp (maxDischargeDepth := 8) [go_sem, World.cell?_alloc_past, ltk2, ltk3, ltk4, ltk5, ltk6, ltk7, ltk8, ltk9, *]))
  replace r2_4 : w5.cell? ⟨w2.heap.size, 4, none⟩ = some (.int .i64 X04) := (hb.cell (by first | omega | (simp <;> omega))).trans (by (simp (maxDischargeDepth := 8) [go_sem, World.cell?_alloc_past, ltk2, ltk3, ltk4, ltk5, ltk6, ltk7, ltk8, ltk9, *]))
  replace r2_5 : w5.cell? ⟨w2.heap.size, 5, none⟩ = some (.int .i64 X05) := (hb.cell (by first | omega | (simp <;> omega))).trans (by (simp (maxDischargeDepth := 8) [go_sem, World.cell?_alloc_past, ltk2, ltk3, ltk4, ltk5, ltk6, ltk7, ltk8, ltk9, *]))
  replace r3_0 : w5.cell? ⟨w3.heap.size, 0, none⟩ = some (.int .i64 X10) := (hb.cell (by first | omega | (simp <;> omega))).trans (by (simp (maxDischargeDepth := 8) [go_sem, World.cell?_alloc_past, ltk2, ltk3, ltk4, ltk5, ltk6, ltk7, ltk8, ltk9, *]))
  replace r3_1 : w5.cell? ⟨w3.heap.size, 1, none⟩ = some (.int .i64 X11) := (hb.cell (by first | omega | (simp <;> omega))).trans (by (simp (maxDischargeDepth := 8) [go_sem, World.cell?_alloc_past, ltk2, ltk3, ltk4, ltk5, ltk6, ltk7, ltk8, ltk9, *]))
  replace r3_2 : w5.cell? ⟨w3.heap.size, 2, none⟩ = some (.int .i64 X12) := (hb.cell (by first | omega | (simp <;> omega))).trans (by (simp (maxDischargeDepth := 8) [go_sem, World.cell?_alloc_past, ltk2, ltk3, ltk4, ltk5, ltk6, ltk7, ltk8, ltk9, *]))
  replace r3_3 : w5.cell? ⟨w3.heap.size, 3, none⟩ = some (.int .i64 X13) := (hb.cell (by first | omega | (simp <;> omega))).trans (by (simp (maxDischargeDepth := 8) [go_sem, World.cell?_alloc_past, ltk2, ltk3, ltk4, ltk5, ltk6, ltk7, ltk8, ltk9, *]))
  replace r3_4 : w5.cell? ⟨w3.heap.size, 4, none⟩ = some (.int .i64 X14) := (hb.cell (by first | omega | (simp <;> omega))).trans (by (simp (maxDischargeDepth := 8) [go_sem, World.cell?_alloc_past, ltk2, ltk3, ltk4, ltk5, ltk6, ltk7, ltk8, ltk9, *]))
  replace r3_5 : w5.cell? ⟨w3.heap.size, 5, none⟩ = some (.int .i64 X15) := (hb.cell (by first | omega | (simp <;> omega))).trans (by (simp (maxDischargeDepth := 8) [go_sem, World.cell?_alloc_past, ltk2, ltk3, ltk4, ltk5, ltk6, ltk7, ltk8, ltk9, *]))
  have r4_0 : w5.cell? ⟨w4.heap.size, 0, none⟩ = some (.int .i64 X10) := (hb.cell (by first | omega | (simp <;> omega))).trans (by (simp (maxDischargeDepth := 8) [go_sem, World.cell?_alloc_past, ltk2, ltk3, ltk4, ltk5, ltk6, ltk7, ltk8, ltk9, *]))
  have r4_1 : w5.cell? ⟨w4.heap.size, 1, none⟩ = some (.int .i64 X11) := (hb.cell (by first | omega | (simp <;> omega))).trans (by (simp (maxDischargeDepth := 8) [go_sem, World.cell?_alloc_past, ltk2, ltk3, ltk4, ltk5, ltk6, ltk7, ltk8, ltk9, *]))
  have r4_2 : w5.cell? ⟨w4.heap.size, 2, none⟩ = some (.int .i64 X12) := (hb.cell (by first | omega | (simp <;> omega))).trans (by (simp (maxDischargeDepth := 8) [go_sem, World.cell?_alloc_past, ltk2, ltk3, ltk4, ltk5, ltk6, ltk7, ltk8, ltk9, *]))
  have r4_3 : w5.cell? ⟨w4.heap.size, 3, none⟩ = some (.int .i64 X13) := (hb.cell (by first | omega | (simp <;> omega))).trans (by (simp (maxDischargeDepth := 8) [go_sem, World.cell?_alloc_past, ltk2, ltk3, ltk4, ltk5, ltk6, ltk7, ltk8, ltk9, *]))
  have r4_4 : w5.cell? ⟨w4.heap.size, 4, none⟩ = some (.int .i64 X14) := (hb.cell (by first | omega | (simp <;> omega))).trans (by (simp (maxDischargeDepth := 8) [go_sem, World.cell?_alloc_past, ltk2, ltk3, ltk4, ltk5, ltk6, ltk7, ltk8, ltk9, *]))
  have r4_5 : w5.cell? ⟨w4.heap.size, 5, none⟩ = some (.int .i64 X15) := (hb.cell (by first | omega | (simp <;> omega))).trans (by (simp (maxDischargeDepth := 8) [go_sem, World.cell?_alloc_past, ltk2, ltk3, ltk4, ltk5, ltk6, ltk7, ltk8, ltk9, *]))
  clear hb HB4
  have zy0_5 : w.heap.size < w5.heap.size := by omega
  have zy1_5 : w.heap.size + 1 < w5.heap.size := by omega
  have zy2_5 : w.heap.size + 1 + 1 < w5.heap.size := by omega
  have zz_w1_5 : w1.heap.size < w5.heap.size := by omega
  have zz_w2_5 : w2.heap.size < w5.heap.size := by omega
  have zz_w3_5 : w3.heap.size < w5.heap.size := by omega
  have zz_w4_5 : w4.heap.size < w5.heap.size := by omega
  go_wp2_with fail
  with_reducible refine (R2 _).mono ?_
  rintro e w6 ⟨rfl, hb⟩
  have HB6 : Below w.heap.size w w6 := by
    refine Below.trans ?_ (hb.mono ?_)
    · (repeat (first | with_reducible exact HB5 | (with_reducible refine bal ?_ _) | (with_reducible refine below_drewN ?_ _) | (with_reducible refine Below.drew ?_) | (with_reducible refine bset ?_ (by first | omega | (simp <;> omega)) _)))
    · first | omega | (simp <;> omega)
  have zs6 : w5.heap.size + 1 < w6.heap.size + 1 := by have := hb.size; (try simp at this); omega
  replace kv0 : w6.cell? ⟨w.heap.size, 0, none⟩ = some (.int .i64 a) := (hb.cell (by first | omega | (simp <;> omega))).trans (by (simp (maxDischargeDepth := 8) [go_sem, World.cell?_alloc_past, ltk2, ltk3, ltk4, ltk5, ltk6, ltk7, ltk8, ltk9, *]))
  replace kv1 : w6.cell? ⟨w.heap.size, 1, none⟩ = some (.int .i64 b) := (hb.cell (by first | omega | (simp <;> omega))).trans (by (simp (maxDischargeDepth := 8) [go_sem, World.cell?_alloc_past, ltk2, ltk3, ltk4, ltk5, ltk6, ltk7, ltk8, ltk9, *]))
  replace kv2 : w6.cell? ⟨w.heap.size, 2, none⟩ = some (.int .i64 c) := (hb.cell (by first | omega | (simp <;> omega))).trans (by (simp (maxDischargeDepth := 8) [go_sem, World.cell?_alloc_past, ltk2, ltk3, ltk4, ltk5, ltk6, ltk7, ltk8, ltk9, *]))
  replace kv3 : w6.cell? ⟨w.heap.size, 3, none⟩ = some (.int .i64 d) := (hb.cell (by first | omega | (simp <;> omega))).trans (by (simp (maxDischargeDepth := 8) [go_sem, World.cell?_alloc_past, ltk2, ltk3, ltk4, ltk5, ltk6, ltk7, ltk8, ltk9, *]))
  replace kv4 : w6.cell? ⟨w.heap.size, 4, none⟩ = some (.int .i64 e) := (hb.cell (by first | omega | (simp <;> omega))).trans (by (simp (maxDischargeDepth := 8) [go_sem, World.cell?_alloc_past, ltk2, ltk3, ltk4, ltk5, ltk6, ltk7, ltk8, ltk9, *]))
  replace kv5 : w6.cell? ⟨w.heap.size, 5, none⟩ = some (.int .i64 f) := (hb.cell (by first | omega | (simp <;> omega))).trans (by (simp (maxDischargeDepth := 8) [go_sem, World.cell?_alloc_past, ltk2, ltk3, ltk4, ltk5, ltk6, ltk7, ltk8, ltk9, *]))
  replace kw0 : w6.cell? ⟨w.heap.size + 1, 0, none⟩ = some (.int .i64 g) := (hb.cell (by first | omega | (simp <;> omega))).trans (by (simp (maxDischargeDepth := 8) [go_sem, World.cell?_alloc_past, ltk2, ltk3, ltk4, ltk5, ltk6, ltk7, ltk8, ltk9, *]))
  replace kw1 : w6.cell? ⟨w.heap.size + 1, 1, none⟩ = some (.int .i64 h) := (hb.cell (by first | omega | (simp <;> omega))).trans (by (simp (maxDischargeDepth := 8) [go_sem, World.cell?_alloc_past, ltk2, ltk3, ltk4, ltk5, ltk6, ltk7, ltk8, ltk9, *]))
  replace kw2 : w6.cell? ⟨w.heap.size + 1, 2, none⟩ = some (.int .i64 i) := (hb.cell (by first | omega | (simp <;> omega))).trans (by (simp (maxDischargeDepth := 8) [go_sem, World.cell?_alloc_past, ltk2, ltk3, ltk4, ltk5, ltk6, ltk7, ltk8, ltk9, *]))
  replace kw3 : w6.cell? ⟨w.heap.size + 1, 3, none⟩ = some (.int .i64 j) := (hb.cell (by first | omega | (simp <;> omega))).trans (by (simp (maxDischargeDepth := 8) [go_sem, World.cell?_alloc_past, ltk2, ltk3, ltk4, ltk5, ltk6, ltk7, ltk8, ltk9, *]))
  replace kw4 : w6.cell? ⟨w.heap.size + 1, 4, none⟩ = some (.int .i64 k) := (hb.cell (by first | omega | (simp <;> omega))).trans (by (simp (maxDischargeDepth := 8) [go_sem, World.cell?_alloc_past, ltk2, ltk3, ltk4, ltk5, ltk6, ltk7, ltk8, ltk9, *]))
  replace kw5 : w6.cell? ⟨w.heap.size + 1, 5, none⟩ = some (.int .i64 l) := (hb.cell (by first | omega | (simp <;> omega))).trans (by (simp (maxDischargeDepth := 8) [go_sem, World.cell?_alloc_past, ltk2, ltk3, ltk4, ltk5, ltk6, ltk7, ltk8, ltk9, *]))
  replace kf0 : w6.cell? ⟨w.heap.size + 1 + 1, 0, none⟩ = some (.int .i64 s) := (hb.cell (by first | omega | (simp <;> omega))).trans (by (simp (maxDischargeDepth := 8) [go_sem, World.cell?_alloc_past, ltk2, ltk3, ltk4, ltk5, ltk6, ltk7, ltk8, ltk9, *]))
  replace kf1 : w6.cell? ⟨w.heap.size + 1 + 1, 1, none⟩ = some (.int .i64 t) := (hb.cell (by first | omega | (simp <;> omega))).trans (by (simp (maxDischargeDepth := 8) [go_sem, World.cell?_alloc_past, ltk2, ltk3, ltk4, ltk5, ltk6, ltk7, ltk8, ltk9, *]))
  replace r1_0 : w6.cell? ⟨w1.heap.size, 0, none⟩ = some (.int .i64 X00) := (hb.cell (by first | omega | (simp <;> omega))).trans (by (simp (maxDischargeDepth := 8) [go_sem, World.cell?_alloc_past, ltk2, ltk3, ltk4, ltk5, ltk6, ltk7, ltk8, ltk9, *]))
  replace r1_1 : w6.cell? ⟨w1.heap.size, 1, none⟩ = some (.int .i64 X01) := (hb.cell (by first | omega | (simp <;> omega))).trans (by (simp (maxDischargeDepth := 8) [go_sem, World.cell?_alloc_past, ltk2, ltk3, ltk4, ltk5, ltk6, ltk7, ltk8, ltk9, *]))
  replace r1_2 : w6.cell? ⟨w1.heap.size, 2, none⟩ = some (.int .i64 X02) := (hb.cell (by first | omega | (simp <;> omega))).trans (by (simp (maxDischargeDepth := 8) [go_sem, World.cell?_alloc_past, ltk2, ltk3, ltk4, ltk5, ltk6, ltk7, ltk8, ltk9, *]))
  replace r1_3 : w6.cell? ⟨w1.heap.size, 3, none⟩ = some (.int .i64 X03) := (hb.cell (by first | omega | (simp <;> omega))).trans (by (simp (maxDischargeDepth := 8) [go_sem, World.cell?_alloc_past, ltk2, ltk3, ltk4, ltk5, ltk6, ltk7, ltk8, ltk9, *]))
  replace r1_4 : w6.cell? ⟨w1.heap.size, 4, none⟩ = some (.int .i64 X04) := (hb.cell (by first | omega | (simp <;> omega))).trans (by (simp (maxDischargeDepth := 8) [go_sem, World.cell?_alloc_past, ltk2, ltk3, ltk4, ltk5, ltk6, ltk7, ltk8, ltk9, *]))
  replace r1_5 : w6.cell? ⟨w1.heap.size, 5, none⟩ = some (.int .i64 X05) := (hb.cell (by first | omega | (simp <;> omega))).trans (by (simp (maxDischargeDepth := 8) [go_sem, World.cell?_alloc_past, ltk2, ltk3, ltk4, ltk5, ltk6, ltk7, ltk8, ltk9, *]))
  replace r2_0 : w6.cell? ⟨w2.heap.size, 0, none⟩ = some (.int .i64 X00) := (hb.cell (by first | omega | (simp <;> omega))).trans (by (simp (maxDischargeDepth := 8) [go_sem, World.cell?_alloc_past, ltk2, ltk3, ltk4, ltk5, ltk6, ltk7, ltk8, ltk9, *]))
  replace r2_1 : w6.cell? ⟨w2.heap.size, 1, none⟩ = some (.int .i64 X01) := (hb.cell (by first | omega | (simp <;> omega))).trans (by (simp (maxDischargeDepth := 8) [go_sem, World.cell?_alloc_past, ltk2, ltk3, ltk4, ltk5, ltk6, ltk7, ltk8, ltk9, *]))
  replace r2_2 : w6.cell? ⟨w2.heap.size, 2, none⟩ = some (.int .i64 X02) := (hb.cell (by first | omega | (simp <;> omega))).trans (by (simp (maxDischargeDepth := 8) [go_sem, World.cell?_alloc_past, ltk2, ltk3, ltk4, ltk5, ltk6, ltk7, ltk8, ltk9, *]))
  replace r2_3 : w6.cell? ⟨w2.heap.size, 3, none⟩ = some (.int .i64 X03) := (hb.cell (by first | omega | (simp <;> omega))).trans (by (simp (maxDischargeDepth := 8) [go_sem, World.cell?_alloc_past, ltk2, ltk3, ltk4, ltk5, ltk6, ltk7, ltk8, ltk9, *]))
  replace r2_4 : w6.cell? ⟨w2.heap.size, 4, none⟩ = some (.int .i64 X04) := (hb.cell (by first | omega | (simp <;> omega))).trans (by (simp (maxDischargeDepth := 8) [go_sem, World.cell?_alloc_past, ltk2, ltk3, ltk4, ltk5, ltk6, ltk7, ltk8, ltk9, *]))
  replace r2_5 : w6.cell? ⟨w2.heap.size, 5, none⟩ = some (.int .i64 X05) := (hb.cell (by first | omega | (simp <;> omega))).trans (by (simp (maxDischargeDepth := 8) [go_sem, World.cell?_alloc_past, ltk2, ltk3, ltk4, ltk5, ltk6, ltk7, ltk8, ltk9, *]))
  replace r3_0 : w6.cell? ⟨w3.heap.size, 0, none⟩ = some (.int .i64 X10) := (hb.cell (by first | omega | (simp <;> omega))).trans (by (simp (maxDischargeDepth := 8) [go_sem, World.cell?_alloc_past, ltk2, ltk3, ltk4, ltk5, ltk6, ltk7, ltk8, ltk9, *]))
  replace r3_1 : w6.cell? ⟨w3.heap.size, 1, none⟩ = some (.int .i64 X11) := (hb.cell (by first | omega | (simp <;> omega))).trans (by (simp (maxDischargeDepth := 8) [go_sem, World.cell?_alloc_past, ltk2, ltk3, ltk4, ltk5, ltk6, ltk7, ltk8, ltk9, *]))
  replace r3_2 : w6.cell? ⟨w3.heap.size, 2, none⟩ = some (.int .i64 X12) := (hb.cell (by first | omega | (simp <;> omega))).trans (by (simp (maxDischargeDepth := 8) [go_sem, World.cell?_alloc_past, ltk2, ltk3, ltk4, ltk5, ltk6, ltk7, ltk8, ltk9, *]))
  replace r3_3 : w6.cell? ⟨w3.heap.size, 3, none⟩ = some (.int .i64 X13) := (hb.cell (by first | omega | (simp <;> omega))).trans (by (simp (maxDischargeDepth := 8) [go_sem, World.cell?_alloc_past, ltk2, ltk3, ltk4, ltk5, ltk6, ltk7, ltk8, ltk9, *]))
  replace r3_4 : w6.cell? ⟨w3.heap.size, 4, none⟩ = some (.int .i64 X14) := (hb.cell (by first | omega | (simp <;> omega))).trans (by (simp (maxDischargeDepth := 8) [go_sem, World.cell?_alloc_past, ltk2, ltk3, ltk4, ltk5, ltk6, ltk7, ltk8, ltk9, *]))
  replace r3_5 : w6.cell? ⟨w3.heap.size, 5, none⟩ = some (.int .i64 X15) := (hb.cell (by first | omega | (simp <;> omega))).trans (by (simp (maxDischargeDepth := 8) [go_sem, World.cell?_alloc_past, ltk2, ltk3, ltk4, ltk5, ltk6, ltk7, ltk8, ltk9, *]))
  replace r4_0 : w6.cell? ⟨w4.heap.size, 0, none⟩ = some (.int .i64 X10) := (hb.cell (by first | omega | (simp <;> omega))).trans (by (simp (maxDischargeDepth := 8) [go_sem, World.cell?_alloc_past, ltk2, ltk3, ltk4, ltk5, ltk6, ltk7, ltk8, ltk9, *]))
  replace r4_1 : w6.cell? ⟨w4.heap.size, 1, none⟩ = some (.int .i64 X11) := (hb.cell (by first | omega | (simp <;> omega))).trans (by (simp (maxDischargeDepth := 8) [go_sem, World.cell?_alloc_past, ltk2, ltk3, ltk4, ltk5, ltk6, ltk7, ltk8, ltk9, *]))
  replace r4_2 : w6.cell? ⟨w4.heap.size, 2, none⟩ = some (.int .i64 X12) := (hb.cell (by first | omega | (simp <;> omega))).trans (by (simp (maxDischargeDepth := 8) [go_sem, World.cell?_alloc_past, ltk2, ltk3, ltk4, ltk5, ltk6, ltk7, ltk8, ltk9, *]))
  replace r4_3 : w6.cell? ⟨w4.heap.size, 3, none⟩ = some (.int .i64 X13) := (hb.cell (by first | omega | (simp <;> omega))).trans (by (simp (maxDischargeDepth := 8) [go_sem, World.cell?_alloc_past, ltk2, ltk3, ltk4, ltk5, ltk6, ltk7, ltk8, ltk9, *]))
  replace r4_4 : w6.cell? ⟨w4.heap.size, 4, none⟩ = some (.int .i64 X14) := (hb.cell (by first | omega | (simp <;> omega))).trans (by (simp (maxDischargeDepth := 8) [go_sem, World.cell?_alloc_past, ltk2, ltk3, ltk4, ltk5, ltk6, ltk7, ltk8, ltk9, *]))
  replace r4_5 : w6.cell? ⟨w4.heap.size, 5, none⟩ = some (.int .i64 X15) := (hb.cell (by first | omega | (simp <;> omega))).trans (by (simp (maxDischargeDepth := 8) [go_sem, World.cell?_alloc_past, ltk2, ltk3, ltk4, ltk5, ltk6, ltk7, ltk8, ltk9, *]))
  have r5_0 : w6.cell? ⟨w5.heap.size, 0, none⟩ = some (.int .i64 X20) := (hb.cell (by first | omega | (simp <;> omega))).trans (by (simp (maxDischargeDepth := 8) [go_sem, World.cell?_alloc_past, ltk2, ltk3, ltk4, ltk5, ltk6, ltk7, ltk8, ltk9, *]))
  have r5_1 : w6.cell? ⟨w5.heap.size, 1, none⟩ = some (.int .i64 X21) := (hb.cell (by first | omega | (simp <;> omega))).trans (by (simp (maxDischargeDepth := 8) [go_sem, World.cell?_alloc_past, ltk2, ltk3, ltk4, ltk5, ltk6, ltk7, ltk8, ltk9, *]))
  have r5_2 : w6.cell? ⟨w5.heap.size, 2, none⟩ = some (.int .i64 X22) := (hb.cell (by first | omega | (simp <;> omega))).trans (by (simp (maxDischargeDepth := 8) [go_sem, World.cell?_alloc_past, ltk2, ltk3, ltk4, ltk5, ltk6, ltk7, ltk8, ltk9, *]))
  have r5_3 : w6.cell? ⟨w5.heap.size, 3, none⟩ = some (.int .i64 X23) := (hb.cell (by first | omega | (simp <;> omega))).trans (by (simp (maxDischargeDepth := 8) [go_sem, World.cell?_alloc_past, ltk2, ltk3, ltk4, ltk5, ltk6, ltk7, ltk8, ltk9, *]))
  have r5_4 : w6.cell? ⟨w5.heap.size, 4, none⟩ = some (.int .i64 X24) := (hb.cell (by first | omega | (simp <;> omega))).trans (by (simp (maxDischargeDepth := 8) [go_sem, World.cell?_alloc_past, ltk2, ltk3, ltk4, ltk5, ltk6, ltk7, ltk8, ltk9, *]))
  have r5_5 : w6.cell? ⟨w5.heap.size, 5, none⟩ = some (.int .i64 X25) := (hb.cell (by first | omega | (simp <;> omega))).trans (by (simp (maxDischargeDepth := 8) [go_sem, World.cell?_alloc_past, ltk2, ltk3, ltk4, ltk5, ltk6, ltk7, ltk8, ltk9, *]))
  clear hb HB5
  have zy0_6 : w.heap.size < w6.heap.size := by omega
  have zy1_6 : w.heap.size + 1 < w6.heap.size := by omega
  have zy2_6 : w.heap.size + 1 + 1 < w6.heap.size := by omega
  have zz_w1_6 : w1.heap.size < w6.heap.size := by omega
  have zz_w2_6 : w2.heap.size < w6.heap.size := by omega
  have zz_w3_6 : w3.heap.size < w6.heap.size := by omega
  have zz_w4_6 : w4.heap.size < w6.heap.size := by omega
  have zz_w5_6 : w5.heap.size < w6.heap.size := by omega
  go_wp2_with fail
  with_reducible refine (A3 _).mono ?_
  rintro e w7 ⟨rfl, hb⟩
  have HB7 : Below w.heap.size w w7 := by
    refine Below.trans ?_ (hb.mono ?_)
    · (repeat (first | with_reducible exact HB6 | (with_reducible refine bal ?_ _) | (with_reducible refine below_drewN ?_ _) | (with_reducible refine Below.drew ?_) | (with_reducible refine bset ?_ (by first | omega | (simp <;> omega)) _)))
    · first | omega | (simp <;> omega)
  have zs7 : w6.heap.size + 1 < w7.heap.size + 1 := by have := hb.size; (try simp at this); omega
  replace kv0 : w7.cell? ⟨w.heap.size, 0, none⟩ = some (.int .i64 a) := (hb.cell (by first | omega | (simp <;> omega))).trans (by (simp (maxDischargeDepth := 8) [go_sem, World.cell?_alloc_past, ltk2, ltk3, ltk4, ltk5, ltk6, ltk7, ltk8, ltk9, *]))
  replace kv1 : w7.cell? ⟨w.heap.size, 1, none⟩ = some (.int .i64 b) := (hb.cell (by first | omega | (simp <;> omega))).trans (by (simp (maxDischargeDepth := 8) [go_sem, World.cell?_alloc_past, ltk2, ltk3, ltk4, ltk5, ltk6, ltk7, ltk8, ltk9, *]))
  replace kv2 : w7.cell? ⟨w.heap.size, 2, none⟩ = some (.int .i64 c) := (hb.cell (by first | omega | (simp <;> omega))).trans (by (simp (maxDischargeDepth := 8) [go_sem, World.cell?_alloc_past, ltk2, ltk3, ltk4, ltk5, ltk6, ltk7, ltk8, ltk9, *]))
  replace kv3 : w7.cell? ⟨w.heap.size, 3, none⟩ = some (.int .i64 d) := (hb.cell (by first | omega | (simp <;> omega))).trans (by (simp (maxDischargeDepth := 8) [go_sem, World.cell?_alloc_past, ltk2, ltk3, ltk4, ltk5, ltk6, ltk7, ltk8, ltk9, *]))
  replace kv4 : w7.cell? ⟨w.heap.size, 4, none⟩ = some (.int .i64 e) := (hb.cell (by first | omega | (simp <;> omega))).trans (by (simp (maxDischargeDepth := 8) [go_sem, World.cell?_alloc_past, ltk2, ltk3, ltk4, ltk5, ltk6, ltk7, ltk8, ltk9, *]))
  replace kv5 : w7.cell? ⟨w.heap.size, 5, none⟩ = some (.int .i64 f) := (hb.cell (by first | omega | (simp <;> omega))).trans (by (simp (maxDischargeDepth := 8) [go_sem, World.cell?_alloc_past, ltk2, ltk3, ltk4, ltk5, ltk6, ltk7, ltk8, ltk9, *]))
  replace kw0 : w7.cell? ⟨w.heap.size + 1, 0, none⟩ = some (.int .i64 g) := (hb.cell (by first | omega | (simp <;> omega))).trans (by (simp (maxDischargeDepth := 8) [go_sem, World.cell?_alloc_past, ltk2, ltk3, ltk4, ltk5, ltk6, ltk7, ltk8, ltk9, *]))
  replace kw1 : w7.cell? ⟨w.heap.size + 1, 1, none⟩ = some (.int .i64 h) := (hb.cell (by first | omega | (simp <;> omega))).trans (by (simp (maxDischargeDepth := 8) [go_sem, World.cell?_alloc_past, ltk2, ltk3, ltk4, ltk5, ltk6, ltk7, ltk8, ltk9, *]))
  replace kw2 : w7.cell? ⟨w.heap.size + 1, 2, none⟩ = some (.int .i64 i) := (hb.cell (by first | omega | (simp <;> omega))).trans (by (simp (maxDischargeDepth := 8) [go_sem, World.cell?_alloc_past, ltk2, ltk3, ltk4, ltk5, ltk6, ltk7, ltk8, ltk9, *]))
  replace kw3 : w7.cell? ⟨w.heap.size + 1, 3, none⟩ = some (.int .i64 j) := (hb.cell (by first | omega | (simp <;> omega))).trans (by (simp (maxDischargeDepth := 8) [go_sem, World.cell?_alloc_past, ltk2, ltk3, ltk4, ltk5, ltk6, ltk7, ltk8, ltk9, *]))
  replace kw4 : w7.cell? ⟨w.heap.size + 1, 4, none⟩ = some (.int .i64 k) := (hb.cell (by first | omega | (simp <;> omega))).trans (by (simp (maxDischargeDepth := 8) [go_sem, World.cell?_alloc_past, ltk2, ltk3, ltk4, ltk5, ltk6, ltk7, ltk8, ltk9, *]))
  replace kw5 : w7.cell? ⟨w.heap.size + 1, 5, none⟩ = some (.int .i64 l) := (hb.cell (by first | omega | (simp <;> omega))).trans (by (simp (maxDischargeDepth := 8) [go_sem, World.cell?_alloc_past, ltk2, ltk3, ltk4, ltk5, ltk6, ltk7, ltk8, ltk9, *]))
  replace kf0 : w7.cell? ⟨w.heap.size + 1 + 1, 0, none⟩ = some (.int .i64 s) := (hb.cell (by first | omega | (simp <;> omega))).trans (by (simp (maxDischargeDepth := 8) [go_sem, World.cell?_alloc_past, ltk2, ltk3, ltk4, ltk5, ltk6, ltk7, ltk8, ltk9, *]))
  replace kf1 : w7.cell? ⟨w.heap.size + 1 + 1, 1, none⟩ = some (.int .i64 t) := (hb.cell (by first | omega | (simp <;> omega))).trans (by (simp (maxDischargeDepth := 8) [go_sem, World.cell?_alloc_past, ltk2, ltk3, ltk4, ltk5, ltk6, ltk7, ltk8, ltk9, *]))
  replace r1_0 : w7.cell? ⟨w1.heap.size, 0, none⟩ = some (.int .i64 X00) := (hb.cell (by first | omega | (simp <;> omega))).trans (by (simp (maxDischargeDepth := 8) [go_sem, World.cell?_alloc_past, ltk2, ltk3, ltk4, ltk5, ltk6, ltk7, ltk8, ltk9, *]))
  replace r1_1 : w7.cell? ⟨w1.heap.size, 1, none⟩ = some (.int .i64 X01) := (hb.cell (by first | omega | (simp <;> omega))).trans (by (simp (maxDischargeDepth := 8) [go_sem, World.cell?_alloc_past, ltk2, ltk3, ltk4, ltk5, ltk6, ltk7, ltk8, ltk9, *]))
  replace r1_2 : w7.cell? ⟨w1.heap.size, 2, none⟩ = some (.int .i64 X02) := (hb.cell (by first | omega | (simp <;> omega))).trans (by (simp (maxDischargeDepth := 8) [go_sem, World.cell?_alloc_past, ltk2, ltk3, ltk4, ltk5, ltk6, ltk7, ltk8, ltk9, *]))
  replace r1_3 : w7.cell? ⟨w1.heap.size, 3, none⟩ = some (.int .i64 X03) := (hb.cell (by first | omega | (simp <;> omega))).trans (by (simp (maxDischargeDepth := 8) [go_sem, World.cell?_alloc_past, ltk2, ltk3, ltk4, ltk5, ltk6, ltk7, ltk8, ltk9, *]))
  replace r1_4 : w7.cell? ⟨w1.heap.size, 4, none⟩ = some (.int .i64 X04) := (hb.cell (by first | omega | (simp <;> omega))).trans (by (simp (maxDischargeDepth := 8) [go_sem, World.cell?_alloc_past, ltk2, ltk3, ltk4, ltk5, ltk6, ltk7, ltk8, ltk9, *]))
  replace r1_5 : w7.cell? ⟨w1.heap.size, 5, none⟩ = some (.int .i64 X05) := (hb.cell (by first | omega | (simp <;> omega))).trans (by (simp (maxDischargeDepth := 8) [go_sem, World.cell?_alloc_past, ltk2, ltk3, ltk4, ltk5, ltk6, ltk7, ltk8, ltk9, *]))
  replace r2_0 : w7.cell? ⟨w2.heap.size, 0, none⟩ = some (.int .i64 X00) := (hb.cell (by first | omega | (simp <;> omega))).trans (by (simp (maxDischargeDepth := 8) [go_sem, World.cell?_alloc_past, ltk2, ltk3, ltk4, ltk5, ltk6, ltk7, ltk8, ltk9, *]))
  replace r2_1 : w7.cell? ⟨w2.heap.size, 1, none⟩ = some (.int .i64 X01) := (hb.cell (by first | omega | (simp <;> omega))).trans (by (simp (maxDischargeDepth := 8) [go_sem, World.cell?_alloc_past, ltk2, ltk3, ltk4, ltk5, ltk6, ltk7, ltk8, ltk9, *]))
  replace r2_2 : w7.cell? ⟨w2.heap.size, 2, none⟩ = some (.int .i64 X02) := (hb.cell (by first | omega | (simp <;> omega))).trans (by (simp (maxDischargeDepth := 8) [go_sem, World.cell?_alloc_past, ltk2, ltk3, ltk4, ltk5, ltk6, ltk7, ltk8, ltk9, *]))
  replace r2_3 : w7.cell? ⟨w2.heap.size, 3, none⟩ = some (.int .i64 X03) := (hb.cell (by first | omega | (simp <;> omega))).trans (by (simp (maxDischargeDepth := 8) [go_sem, World.cell?_alloc_past, ltk2, ltk3, ltk4, ltk5, ltk6, ltk7, ltk8, ltk9, *]))
  replace r2_4 : w7.cell? ⟨w2.heap.size, 4, none⟩ = some (.int .i64 X04) := (hb.cell (by first | omega | (simp <;> omega))).trans (by (simp (maxDischargeDepth := 8) [go_sem, World.cell?_alloc_past, ltk2, ltk3, ltk4, ltk5, ltk6, ltk7, ltk8, ltk9, *]))
  replace r2_5 : w7.cell? ⟨w2.heap.size, 5, none⟩ = some (.int .i64 X05) := (hb.cell (by first | omega | (simp <;> omega))).trans (by (simp (maxDischargeDepth := 8) [go_sem, World.cell?_alloc_past, ltk2, ltk3, ltk4, ltk5, ltk6, ltk7, ltk8, ltk9, *]))
  replace r3_0 : w7.cell? ⟨w3.heap.size, 0, none⟩ = some (.int .i64 X10) := (hb.cell (by first | omega | (simp <;> omega))).trans (by (simp (maxDischargeDepth := 8) [go_sem, World.cell?_alloc_past, ltk2, ltk3, ltk4, ltk5, ltk6, ltk7, ltk8, ltk9, *]))
  replace r3_1 : w7.cell? ⟨w3.heap.size, 1, none⟩ = some (.int .i64 X11) := (hb.cell (by first | omega | (simp <;> omega))).trans (by (simp (maxDischargeDepth := 8) [go_sem, World.cell?_alloc_past, ltk2, ltk3, ltk4, ltk5, ltk6, ltk7, ltk8, ltk9, *]))
  replace r3_2 : w7.cell? ⟨w3.heap.size, 2, none⟩ = some (.int .i64 X12) := (hb.cell (by first | omega | (simp <;> omega))).trans (by (simp (maxDischargeDepth := 8) [go_sem, World.cell?_alloc_past, ltk2, ltk3, ltk4, ltk5, ltk6, ltk7, ltk8, ltk9, *]))
  replace r3_3 : w7.cell? ⟨w3.heap.size, 3, none⟩ = some (.int .i64 X13) := (hb.cell (by first | omega | (simp <;> omega))).trans (by (simp (maxDischargeDepth := 8) [go_sem, World.cell?_alloc_past, ltk2, ltk3, ltk4, ltk5, ltk6, ltk7, ltk8, ltk9, *]))
  replace r3_4 : w7.cell? ⟨w3.heap.size, 4, none⟩ = some (.int .i64 X14) := (hb.cell (by first | omega | (simp <;> omega))).trans (by (simp (maxDischargeDepth := 8) [go_sem, World.cell?_alloc_past, ltk2, ltk3, ltk4, ltk5, ltk6, ltk7, ltk8, ltk9, *]))
  replace r3_5 : w7.cell? ⟨w3.heap.size, 5, none⟩ = some (.int .i64 X15) := (hb.cell (by first | omega | (simp <;> omega))).trans (by (simp (maxDischargeDepth := 8) [go_sem, World.cell?_alloc_past, ltk2, ltk3, ltk4, ltk5, ltk6, ltk7, ltk8, ltk9, *]))
  replace r4_0 : w7.cell? ⟨w4.heap.size, 0, none⟩ = some (.int .i64 X10) := (hb.cell (by first | omega | (simp <;> omega))).trans (by (simp (maxDischargeDepth := 8) [go_sem, World.cell?_alloc_past, ltk2, ltk3, ltk4, ltk5, ltk6, ltk7, ltk8, ltk9, *]))
  replace r4_1 : w7.cell? ⟨w4.heap.size, 1, none⟩ = some (.int .i64 X11) := (hb.cell (by first | omega | (simp <;> omega))).trans (by (simp (maxDischargeDepth := 8) [go_sem, World.cell?_alloc_past, ltk2, ltk3, ltk4, ltk5, ltk6, ltk7, ltk8, ltk9, *]))
  replace r4_2 : w7.cell? ⟨w4.heap.size, 2, none⟩ = some (.int .i64 X12) := (hb.cell (by first | omega | (simp <;> omega))).trans (by (simp (maxDischargeDepth := 8) [go_sem, World.cell?_alloc_past, ltk2, ltk3, ltk4, ltk5, ltk6, ltk7, ltk8, ltk9, *]))
  replace r4_3 : w7.cell? ⟨w4.heap.size, 3, none⟩ = some (.int .i64 X13) := (hb.cell (by first | omega | (simp <;> omega))).trans (by (simp (maxDischargeDepth := 8) [go_sem, World.cell?_alloc_past, ltk2, ltk3, ltk4, ltk5, ltk6, ltk7, ltk8, ltk9, *]))
  replace r4_4 : w7.cell? ⟨w4.heap.size, 4, none⟩ = some (.int .i64 X14) := (hb.cell (by first | omega | (simp <;> omega))).trans (by (simp (maxDischargeDepth := 8) [go_sem, World.cell?_alloc_past, ltk2, ltk3, ltk4, ltk5, ltk6, ltk7, ltk8, ltk9, *]))
  replace r4_5 : w7.cell? ⟨w4.heap.size, 5, none⟩ = some (.int .i64 X15) := (hb.cell (by first | omega | (simp <;> omega))).trans (by (simp (maxDischargeDepth := 8) [go_sem, World.cell?_alloc_past, ltk2, ltk3, ltk4, ltk5, ltk6, ltk7, ltk8, ltk9, *]))
  replace r5_0 : w7.cell? ⟨w5.heap.size, 0, none⟩ = some (.int .i64 X20) := (hb.cell (by first | omega | (simp <;> omega))).trans (by (simp (maxDischargeDepth := 8) [go_sem, World.cell?_alloc_past, ltk2, ltk3, ltk4, ltk5, ltk6, ltk7, ltk8, ltk9, *]))
  replace r5_1 : w7.cell? ⟨w5.heap.size, 1, none⟩ = some (.int .i64 X21) := (hb.cell (by first | omega | (simp <;> omega))).trans (by (simp (maxDischargeDepth := 8) [go_sem, World.cell?_alloc_past, ltk2, ltk3, ltk4, ltk5, ltk6, ltk7, ltk8, ltk9, *]))
  replace r5_2 : w7.cell? ⟨w5.heap.size, 2, none⟩ = some (.int .i64 X22) := (hb.cell (by first | omega | (simp <;> omega))).trans (by (simp (maxDischargeDepth := 8) [go_sem, World.cell?_alloc_past, ltk2, ltk3, ltk4, ltk5, ltk6, ltk7, ltk8, ltk9, *]))
  replace r5_3 : w7.cell? ⟨w5.heap.size, 3, none⟩ = some (.int .i64 X23) := (hb.cell (by first | omega | (simp <;> omega))).trans (by (simp (maxDischargeDepth := 8) [go_sem, World.cell?_alloc_past, ltk2, ltk3, ltk4, ltk5, ltk6, ltk7, ltk8, ltk9, *]))
  replace r5_4 : w7.cell? ⟨w5.heap.size, 4, none⟩ = some (.int .i64 X24) := (hb.cell (by first | omega | (simp <;> omega))).trans (by (simp (maxDischargeDepth := 8) [go_sem, World.cell?_alloc_past, ltk2, ltk3, ltk4, ltk5, ltk6, ltk7, ltk8, ltk9, *]))
  replace r5_5 : w7.cell? ⟨w5.heap.size, 5, none⟩ = some (.int .i64 X25) := (hb.cell (by first | omega | (simp <;> omega))).trans (by (simp (maxDischargeDepth := 8) [go_sem, World.cell?_alloc_past, ltk2, ltk3, ltk4, ltk5, ltk6, ltk7, ltk8, ltk9, *]))
  have r6_0 : w7.cell? ⟨w6.heap.size, 0, none⟩ = some (.int .i64 X20) := (hb.cell (by first | omega | (simp <;> omega))).trans (by (simp (maxDischargeDepth := 8) [go_sem, World.cell?_alloc_past, ltk2, ltk3, ltk4, ltk5, ltk6, ltk7, ltk8, ltk9, *]))
  have r6_1 : w7.cell? ⟨w6.heap.size, 1, none⟩ = some (.int .i64 X21) := (hb.cell (by first | omega | (simp <;> omega))).trans (by (simp (maxDischargeDepth := 8) [go_sem, World.cell?_alloc_past, ltk2, ltk3, ltk4, ltk5, ltk6, ltk7, ltk8, ltk9, *]))
  have r6_2 : w7.cell? ⟨w6.heap.size, 2, none⟩ = some (.int .i64 X22) := (hb.cell (by first | omega | (simp <;> omega))).trans (by (simp (maxDischargeDepth := 8) [go_sem, World.cell?_alloc_past, ltk2, ltk3, ltk4, ltk5, ltk6, ltk7, ltk8, ltk9, *]))
  have r6_3 : w7.cell? ⟨w6.heap.size, 3, none⟩ = some (.int .i64 X23) := (hb.cell (by first | omega | (simp <;> omega))).trans (by (simp (maxDischargeDepth := 8) [go_sem, World.cell?_alloc_past, ltk2, ltk3, ltk4, ltk5, ltk6, ltk7, ltk8, ltk9, *]))
  have r6_4 : w7.cell? ⟨w6.heap.size, 4, none⟩ = some (.int .i64 X24) := (hb.cell (by first | omega | (simp <;> omega))).trans (by (simp (maxDischargeDepth := 8) [go_sem, World.cell?_alloc_past, ltk2, ltk3, ltk4, ltk5, ltk6, ltk7, ltk8, ltk9, *]))
  have r6_5 : w7.cell? ⟨w6.heap.size, 5, none⟩ = some (.int .i64 X25) := (hb.cell (by first | omega | (simp <;> omega))).trans (by (simp (maxDischargeDepth := 8) [go_sem, World.cell?_alloc_past, ltk2, ltk3, ltk4, ltk5, ltk6, ltk7, ltk8, ltk9, *]))
  clear hb HB6
  have zy0_7 : w.heap.size < w7.heap.size := by omega
  have zy1_7 : w.heap.size + 1 < w7.heap.size := by omega
  have zy2_7 : w.heap.size + 1 + 1 < w7.heap.size := by omega
  have zz_w1_7 : w1.heap.size < w7.heap.size := by omega
  have zz_w2_7 : w2.heap.size < w7.heap.size := by omega
  have zz_w3_7 : w3.heap.size < w7.heap.size := by omega
  have zz_w4_7 : w4.heap.size < w7.heap.size := by omega
  have zz_w5_7 : w5.heap.size < w7.heap.size := by omega
  have zz_w6_7 : w6.heap.size < w7.heap.size := by omega
  go_wp2_with fail
  with_reducible refine (R3 _).mono ?_
  rintro e w8 ⟨rfl, hb⟩
  have HB8 : Below w.heap.size w w8 := by
    refine Below.trans ?_ (hb.mono ?_)
    · (repeat (first | with_reducible exact HB7 | (with_reducible refine bal ?_ _) | (with_reducible refine below_drewN ?_ _) | (with_reducible refine Below.drew ?_) | (with_reducible refine bset ?_ (by first | omega | (simp <;> omega)) _)))
    · first | omega | (simp <;> omega)
  have zs8 : w7.heap.size + 1 < w8.heap.size + 1 := by have := hb.size; (try simp at this); omega
  replace kv0 : w8.cell? ⟨w.heap.size, 0, none⟩ = some (.int .i64 a) := (hb.cell (by first | omega | (simp <;> omega))).trans (by (simp (maxDischargeDepth := 8) [go_sem, World.cell?_alloc_past, ltk2, ltk3, ltk4, ltk5, ltk6, ltk7, ltk8, ltk9, *]))
  replace kv1 : w8.cell? ⟨w.heap.size, 1, none⟩ = some (.int .i64 b) := (hb.cell (by first | omega | (simp <;> omega))).trans (by (simp (maxDischargeDepth := 8) [go_sem, World.cell?_alloc_past, ltk2, ltk3, ltk4, ltk5, ltk6, ltk7, ltk8, ltk9, *]))
  replace kv2 : w8.cell? ⟨w.heap.size, 2, none⟩ = some (.int .i64 c) := (hb.cell (by first | omega | (simp <;> omega))).trans (by (simp (maxDischargeDepth := 8) [go_sem, World.cell?_alloc_past, ltk2, ltk3, ltk4, ltk5, ltk6, ltk7, ltk8, ltk9, *]))
  replace kv3 : w8.cell? ⟨w.heap.size, 3, none⟩ = some (.int .i64 d) := (hb.cell (by first | omega | (simp <;> omega))).trans (by (simp (maxDischargeDepth := 8) [go_sem, World.cell?_alloc_past, ltk2, ltk3, ltk4, ltk5, ltk6, ltk7, ltk8, ltk9, *]))
  replace kv4 : w8.cell? ⟨w.heap.size, 4, none⟩ = some (.int .i64 e) := (hb.cell (by first | omega | (simp <;> omega))).trans (by (simp (maxDischargeDepth := 8) [go_sem, World.cell?_alloc_past, ltk2, ltk3, ltk4, ltk5, ltk6, ltk7, ltk8, ltk9, *]))
  replace kv5 : w8.cell? ⟨w.heap.size, 5, none⟩ = some (.int .i64 f) := (hb.cell (by first | omega | (simp <;> omega))).trans (by (simp (maxDischargeDepth := 8) [go_sem, World.cell?_alloc_past, ltk2, ltk3, ltk4, ltk5, ltk6, ltk7, ltk8, ltk9, *]))
  replace kw0 : w8.cell? ⟨w.heap.size + 1, 0, none⟩ = some (.int .i64 g) := (hb.cell (by first | omega | (simp <;> omega))).trans (by (simp (maxDischargeDepth := 8) [go_sem, World.cell?_alloc_past, ltk2, ltk3, ltk4, ltk5, ltk6, ltk7, ltk8, ltk9, *]))
  replace kw1 : w8.cell? ⟨w.heap.size + 1, 1, none⟩ = some (.int .i64 h) := (hb.cell (by first | omega | (simp <;> omega))).trans (by (simp (maxDischargeDepth := 8) [go_sem, World.cell?_alloc_past, ltk2, ltk3, ltk4, ltk5, ltk6, ltk7, ltk8, ltk9, *]))
  replace kw2 : w8.cell? ⟨w.heap.size + 1, 2, none⟩ = some (.int .i64 i) := (hb.cell (by first | omega | (simp <;> omega))).trans (by (simp (maxDischargeDepth := 8) [go_sem, World.cell?_alloc_past, ltk2, ltk3, ltk4, ltk5, ltk6, ltk7, ltk8, ltk9, *]))
  replace kw3 : w8.cell? ⟨w.heap.size + 1, 3, none⟩ = some (.int .i64 j) := (hb.cell (by first | omega | (simp <;> omega))).trans (by (simp (maxDischargeDepth := 8) [go_sem, World.cell?_alloc_past, ltk2, ltk3, ltk4, ltk5, ltk6, ltk7, ltk8, ltk9, *]))
  replace kw4 : w8.cell? ⟨w.heap.size + 1, 4, none⟩ = some (.int .i64 k) := (hb.cell (by first | omega | (simp <;> omega))).trans (by (simp (maxDischargeDepth := 8) [go_sem, World.cell?_alloc_past, ltk2, ltk3, ltk4, ltk5, ltk6, ltk7, ltk8, ltk9, *]))
  replace kw5 : w8.cell? ⟨w.heap.size + 1, 5, none⟩ = some (.int .i64 l) := (hb.cell (by first | omega | (simp <;> omega))).trans (by (simp (maxDischargeDepth := 8) [go_sem, World.cell?_alloc_past, ltk2, ltk3, ltk4, ltk5, ltk6, ltk7, ltk8, ltk9, *]))
  replace kf0 : w8.cell? ⟨w.heap.size + 1 + 1, 0, none⟩ = some (.int .i64 s) := (hb.cell (by first | omega | (simp <;> omega))).trans (by (simp (maxDischargeDepth := 8) [go_sem, World.cell?_alloc_past, ltk2, ltk3, ltk4, ltk5, ltk6, ltk7, ltk8, ltk9, *]))
  replace kf1 : w8.cell? ⟨w.heap.size + 1 + 1, 1, none⟩ = some (.int .i64 t) := (hb.cell (by first | omega | (simp <;> omega))).trans (by (simp (maxDischargeDepth := 8) [go_sem, World.cell?_alloc_past, ltk2, ltk3, ltk4, ltk5, ltk6, ltk7, ltk8, ltk9, *]))
  replace r1_0 : w8.cell? ⟨w1.heap.size, 0, none⟩ = some (.int .i64 X00) := (hb.cell (by first | omega | (simp <;> omega))).trans (by (simp (maxDischargeDepth := 8) [go_sem, World.cell?_alloc_past, ltk2, ltk3, ltk4, ltk5, ltk6, ltk7, ltk8, ltk9, *]))
  replace r1_1 : w8.cell? ⟨w1.heap.size, 1, none⟩ = some (.int .i64 X01) := (hb.cell (by first | omega | (simp <;> omega))).trans (by (simp (maxDischargeDepth := 8) [go_sem, World.cell?_alloc_past, ltk2, ltk3, ltk4, ltk5, ltk6, ltk7, ltk8, ltk9, *]))
  replace r1_2 : w8.cell? ⟨w1.heap.size, 2, none⟩ = some (.int .i64 X02) := (hb.cell (by first | omega | (simp <;> omega))).trans (by (simp (maxDischargeDepth := 8) [go_sem, World.cell?_alloc_past, ltk2, ltk3, ltk4, ltk5, ltk6, ltk7, ltk8, ltk9, *]))
  replace r1_3 : w8.cell? ⟨w1.heap.size, 3, none⟩ = some (.int .i64 X03) := (hb.cell (by first | omega | (simp <;> omega))).trans (by (simp (maxDischargeDepth := 8) [go_sem, World.cell?_alloc_past, ltk2, ltk3, ltk4, ltk5, ltk6, ltk7, ltk8, ltk9, *]))
  replace r1_4 : w8.cell? ⟨w1.heap.size, 4, none⟩ = some (.int .i64 X04) := (hb.cell (by first | omega | (simp <;> omega))).trans (by (simp (maxDischargeDepth := 8) [go_sem, World.cell?_alloc_past, ltk2, ltk3, ltk4, ltk5, ltk6, ltk7, ltk8, ltk9, *]))
  replace r1_5 : w8.cell? ⟨w1.heap.size, 5, none⟩ = some (.int .i64 X05) := (hb.cell (by first | omega | (simp <;> omega))).trans (by (simp (maxDischargeDepth := 8) [go_sem, World.cell?_alloc_past, ltk2, ltk3, ltk4, ltk5, ltk6, ltk7, ltk8, ltk9, *]))
  replace r2_0 : w8.cell? ⟨w2.heap.size, 0, none⟩ = some (.int .i64 X00) := (hb.cell (by first | omega | (simp <;> omega))).trans (by (simp (maxDischargeDepth := 8) [go_sem, World.cell?_alloc_past, ltk2, ltk3, ltk4, ltk5, ltk6, ltk7, ltk8, ltk9, *]))
  replace r2_1 : w8.cell? ⟨w2.heap.size, 1, none⟩ = some (.int .i64 X01) := (hb.cell (by first | omega | (simp <;> omega))).trans (by (simp (maxDischargeDepth := 8) [go_sem, World.cell?_alloc_past, ltk2, ltk3, ltk4, ltk5, ltk6, ltk7, ltk8, ltk9, *]))
  replace r2_2 : w8.cell? ⟨w2.heap.size, 2, none⟩ = some (.int .i64 X02) := (hb.cell (by first | omega | (simp <;> omega))).trans (by (simp (maxDischargeDepth := 8) [go_sem, World.cell?_alloc_past, ltk2, ltk3, ltk4, ltk5, ltk6, ltk7, ltk8, ltk9, *]))
  replace r2_3 : w8.cell? ⟨w2.heap.size, 3, none⟩ = some (.int .i64 X03) := (hb.cell (by first | omega | (simp <;> omega))).trans (by (simp (maxDischargeDepth := 8) [go_sem, World.cell?_alloc_past, ltk2, ltk3, ltk4, ltk5, ltk6, ltk7, ltk8, ltk9, *]))
  replace r2_4 : w8.cell? ⟨w2.heap.size, 4, none⟩ = some (.int .i64 X04) := (hb.cell (by first | omega | (simp <;> omega))).trans (by (simp (maxDischargeDepth := 8) [go_sem, World.cell?_alloc_past, ltk2, ltk3, ltk4, ltk5, ltk6, ltk7, ltk8, ltk9, *]))
  replace r2_5 : w8.cell? ⟨w2.heap.size, 5, none⟩ = some (.int .i64 X05) := (hb.cell (by first | omega | (simp <;> omega))).trans (by (simp (maxDischargeDepth := 8) [go_sem, World.cell?_alloc_past, ltk2, ltk3, ltk4, ltk5, ltk6, ltk7, ltk8, ltk9, *]))
  replace r3_0 : w8.cell? ⟨w3.heap.size, 0, none⟩ = some (.int .i64 X10) := (hb.cell (by first | omega | (simp <;> omega))).trans (by (simp (maxDischargeDepth := 8) [go_sem, World.cell?_alloc_past, ltk2, ltk3, ltk4, ltk5, ltk6, ltk7, ltk8, ltk9, *]))
  replace r3_1 : w8.cell? ⟨w3.heap.size, 1, none⟩ = some (.int .i64 X11) := (hb.cell (by first | omega | (simp <;> omega))).trans (by (simp (maxDischargeDepth := 8) [go_sem, World.cell?_alloc_past, ltk2, ltk3, ltk4, ltk5, ltk6, ltk7, ltk8, ltk9, *]))
  replace r3_2 : w8.cell? ⟨w3.heap.size, 2, none⟩ = some (.int .i64 X12) := (hb.cell (by first | omega | (simp <;> omega))).trans (by (simp (maxDischargeDepth := 8) [go_sem, World.cell?_alloc_past, ltk2, ltk3, ltk4, ltk5, ltk6, ltk7, ltk8, ltk9, *]))
  replace r3_3 : w8.cell? ⟨w3.heap.size, 3, none⟩ = some (.int .i64 X13) := (hb.cell (by first | omega | (simp <;> omega))).trans (by (simp (maxDischargeDepth := 8) [go_sem, World.cell?_alloc_past, ltk2, ltk3, ltk4, ltk5, ltk6, ltk7, ltk8, ltk9, *]))
  replace r3_4 : w8.cell? ⟨w3.heap.size, 4, none⟩ = some (.int .i64 X14) := (hb.cell (by first | omega | (simp <;> omega))).trans (by (simp (maxDischargeDepth := 8) [go_sem, World.cell?_alloc_past, ltk2, ltk3, ltk4, ltk5, ltk6, ltk7, ltk8, ltk9, *]))
  replace r3_5 : w8.cell? ⟨w3.heap.size, 5, none⟩ = some (.int .i64 X15) := (hb.cell (by first | omega | (simp <;> omega))).trans (by (simp (maxDischargeDepth := 8) [go_sem, World.cell?_alloc_past, ltk2, ltk3, ltk4, ltk5, ltk6, ltk7, ltk8, ltk9, *]))
  replace r4_0 : w8.cell? ⟨w4.heap.size, 0, none⟩ = some (.int .i64 X10) := (hb.cell (by first | omega | (simp <;> omega))).trans (by (simp (maxDischargeDepth := 8) [go_sem, World.cell?_alloc_past, ltk2, ltk3, ltk4, ltk5, ltk6, ltk7, ltk8, ltk9, *]))
  replace r4_1 : w8.cell? ⟨w4.heap.size, 1, none⟩ = some (.int .i64 X11) := (hb.cell (by first | omega | (simp <;> omega))).trans (by (simp (maxDischargeDepth := 8) [go_sem, World.cell?_alloc_past, ltk2, ltk3, ltk4, ltk5, ltk6, ltk7, ltk8, ltk9, *]))
  replace r4_2 : w8.cell? ⟨w4.heap.size, 2, none⟩ = some (.int .i64 X12) := (hb.cell (by first | omega | (simp <;> omega))).trans (by (simp (maxDischargeDepth := 8) [go_sem, World.cell?_alloc_past, ltk2, ltk3, ltk4, ltk5, ltk6, ltk7, ltk8, ltk9, *]))
  replace r4_3 : w8.cell? ⟨w4.heap.size, 3, none⟩ = some (.int .i64 X13) := (hb.cell (by first | omega | (simp <;> omega))).trans (by (simp (maxDischargeDepth := 8) [go_sem, World.cell?_alloc_past, ltk2, ltk3, ltk4, ltk5, ltk6, ltk7, ltk8, ltk9, *]))
  replace r4_4 : w8.cell? ⟨w4.heap.size, 4, none⟩ = some (.int .i64 X14) := (hb.cell (by first | omega | (simp <;> omega))).trans (by (simp (maxDischargeDepth := 8) [go_sem, World.cell?_alloc_past, ltk2, ltk3, ltk4, ltk5, ltk6, ltk7, ltk8, ltk9, *]))
  replace r4_5 : w8.cell? ⟨w4.heap.size, 5, none⟩ = some (.int .i64 X15) := (hb.cell (by first | omega | (simp <;> omega))).trans (by (simp (maxDischargeDepth := 8) [go_sem, World.cell?_alloc_past, ltk2, ltk3, ltk4, ltk5, ltk6, ltk7, ltk8, ltk9, *]))
  replace r5_0 : w8.cell? ⟨w5.heap.size, 0, none⟩ = some (.int .i64 X20) := (hb.cell (by first | omega | (simp <;> omega))).trans (by (simp (maxDischargeDepth := 8) [go_sem, World.cell?_alloc_past, ltk2, ltk3, ltk4, ltk5, ltk6, ltk7, ltk8, ltk9, *]))
  replace r5_1 : w8.cell? ⟨w5.heap.size, 1, none⟩ = some (.int .i64 X21) := (hb.cell (by first | omega | (simp <;> omega))).trans (by (simp (maxDischargeDepth := 8) [go_sem, World.cell?_alloc_past, ltk2, ltk3, ltk4, ltk5, ltk6, ltk7, ltk8, ltk9, *]))
  replace r5_2 : w8.cell? ⟨w5.heap.size, 2, none⟩ = some (.int .i64 X22) := (hb.cell (by first | omega | (simp <;> omega))).trans (by (simp (maxDischargeDepth := 8) [go_sem, World.cell?_alloc_past, ltk2, ltk3, ltk4, ltk5, ltk6, ltk7, ltk8, ltk9, *]))
  replace r5_3 : w8.cell? ⟨w5.heap.size, 3, none⟩ = some (.int .i64 X23) := (hb.cell (by first | omega | (simp <;> omega))).trans (by (simp (maxDischargeDepth := 8) [go_sem, World.cell?_alloc_past, ltk2, ltk3, ltk4, ltk5, ltk6, ltk7, ltk8, ltk9, *]))
  replace r5_4 : w8.cell? ⟨w5.heap.size, 4, none⟩ = some (.int .i64 X24) := (hb.cell (by first | omega | (simp <;> omega))).trans (by (simp (maxDischargeDepth := 8) [go_sem, World.cell?_alloc_past, ltk2, ltk3, ltk4, ltk5, ltk6, ltk7, ltk8, ltk9, *]))
  replace r5_5 : w8.cell? ⟨w5.heap.size, 5, none⟩ = some (.int .i64 X25) := (hb.cell (by first | omega | (simp <;> omega))).trans (by (simp (maxDischargeDepth := 8) [go_sem, World.cell?_alloc_past, ltk2, ltk3, ltk4, ltk5, ltk6, ltk7, ltk8, ltk9, *]))
  replace r6_0 : w8.cell? ⟨w6.heap.size, 0, none⟩ = some (.int .i64 X20) := (hb.cell (by first | omega | (simp <;> omega))).trans (by (simp (maxDischargeDepth := 8) [go_sem, World.cell?_alloc_past, ltk2, ltk3, ltk4, ltk5, ltk6, ltk7, ltk8, ltk9, *]))
  replace r6_1 : w8.cell? ⟨w6.heap.size, 1, none⟩ = some (.int .i64 X21) := (hb.cell (by first | omega | (simp <;> omega))).trans (by (simp (maxDischargeDepth := 8) [go_sem, World.cell?_alloc_past, ltk2, ltk3, ltk4, ltk5, ltk6, ltk7, ltk8, ltk9, *]))
  replace r6_2 : w8.cell? ⟨w6.heap.size, 2, none⟩ = some (.int .i64 X22) := (hb.cell (by first | omega | (simp <;> omega))).trans (by (simp (maxDischargeDepth := 8) [go_sem, World.cell?_alloc_past, ltk2, ltk3, ltk4, ltk5, ltk6, ltk7, ltk8, ltk9, *]))
  replace r6_3 : w8.cell? ⟨w6.heap.size, 3, none⟩ = some (.int .i64 X23) := (hb.cell (by first | omega | (simp <;> omega))).trans (by (simp (maxDischargeDepth := 8) [go_sem, World.cell?_alloc_past, ltk2, ltk3, ltk4, ltk5, ltk6, ltk7, ltk8, ltk9, *]))
  replace r6_4 : w8.cell? ⟨w6.heap.size, 4, none⟩ = some (.int .i64 X24) := (hb.cell (by first | omega | (simp <;> omega))).trans (by (simp (maxDischargeDepth := 8) [go_sem, World.cell?_alloc_past, ltk2, ltk3, ltk4, ltk5, ltk6, ltk7, ltk8, ltk9, *]))
  replace r6_5 : w8.cell? ⟨w6.heap.size, 5, none⟩ = some (.int .i64 X25) := (hb.cell (by first | omega | (simp <;> omega))).trans (by (simp (maxDischargeDepth := 8) [go_sem, World.cell?_alloc_past, ltk2, ltk3, ltk4, ltk5, ltk6, ltk7, ltk8, ltk9, *]))
  have r7_0 : w8.cell? ⟨w7.heap.size, 0, none⟩ = some (.int .i64 X30) := (hb.cell (by first | omega | (simp <;> omega))).trans (by (simp (maxDischargeDepth := 8) [go_sem, World.cell?_alloc_past, ltk2, ltk3, ltk4, ltk5, ltk6, ltk7, ltk8, ltk9, *]))
  have r7_1 : w8.cell? ⟨w7.heap.size, 1, none⟩ = some (.int .i64 X31) := (hb.cell (by first | omega | (simp <;> omega))).trans (by (simp (maxDischargeDepth := 8) [go_sem, World.cell?_alloc_past, ltk2, ltk3, ltk4, ltk5, ltk6, ltk7, ltk8, ltk9, *]))
  clear hb HB7
  have zy0_8 : w.heap.size < w8.heap.size := by omega
  have zy1_8 : w.heap.size + 1 < w8.heap.size := by omega
  have zy2_8 : w.heap.size + 1 + 1 < w8.heap.size := by omega
  have zz_w1_8 : w1.heap.size < w8.heap.size := by omega
  have zz_w2_8 : w2.heap.size < w8.heap.size := by omega
  have zz_w3_8 : w3.heap.size < w8.heap.size := by omega
  have zz_w4_8 : w4.heap.size < w8.heap.size := by omega
  have zz_w5_8 : w5.heap.size < w8.heap.size := by omega
  have zz_w6_8 : w6.heap.size < w8.heap.size := by omega
  have zz_w7_8 : w7.heap.size < w8.heap.size := by omega
  go_wp2_with fail
  with_reducible refine (A4 _).mono ?_
  rintro e w9 ⟨rfl, hb⟩
  have HB9 : Below w.heap.size w w9 := by
    refine Below.trans ?_ (hb.mono ?_)
    · (repeat (first | with_reducible exact HB8 | (with_reducible refine bal ?_ _) | (with_reducible refine below_drewN ?_ _) | (with_reducible refine Below.drew ?_) | (with_reducible refine bset ?_ (by first | omega | (simp <;> omega)) _)))
    · first | omega | (simp <;> omega)
  have zs9 : w8.heap.size + 1 < w9.heap.size + 1 := by have := hb.size; (try simp at this); omega
  replace kv0 : w9.cell? ⟨w.heap.size, 0, none⟩ = some (.int .i64 a) := (hb.cell (by first | omega | (simp <;> omega))).trans (by (simp (maxDischargeDepth := 8) [go_sem, World.cell?_alloc_past, ltk2, ltk3, ltk4, ltk5, ltk6, ltk7, ltk8, ltk9, *]))
  replace kv1 : w9.cell? ⟨w.heap.size, 1, none⟩ = some (.int .i64 b) := (hb.cell (by first | omega | (simp <;> omega))).trans (by (simp (maxDischargeDepth := 8) [go_sem, World.cell?_alloc_past, ltk2, ltk3, ltk4, ltk5, ltk6, ltk7, ltk8, ltk9, *]))
  replace kv2 : w9.cell? ⟨w.heap.size, 2, none⟩ = some (.int .i64 c) := (hb.cell (by first | omega | (simp <;> omega))).trans (by (simp (maxDischargeDepth := 8) [go_sem, World.cell?_alloc_past, ltk2, ltk3, ltk4, ltk5, ltk6, ltk7, ltk8, ltk9, *]))
  replace kv3 : w9.cell? ⟨w.heap.size, 3, none⟩ = some (.int .i64 d) := (hb.cell (by first | omega | (simp <;> omega))).trans (by (simp (maxDischargeDepth := 8) [go_sem, World.cell?_alloc_past, ltk2, ltk3, ltk4, ltk5, ltk6, ltk7, ltk8, ltk9, *]))
  replace kv4 : w9.cell? ⟨w.heap.size, 4, none⟩ = some (.int .i64 e) := (hb.cell (by first | omega | (simp <;> omega))).trans (by (simp (maxDischargeDepth := 8) [go_sem, World.cell?_alloc_past, ltk2, ltk3, ltk4, ltk5, ltk6, ltk7, ltk8, ltk9, *]))
  replace kv5 : w9.cell? ⟨w.heap.size, 5, none⟩ = some (.int .i64 f) := (hb.cell (by first | omega | (simp <;> omega))).trans (by (simp (maxDischargeDepth := 8) [go_sem, World.cell?_alloc_past, ltk2, ltk3, ltk4, ltk5, ltk6, ltk7, ltk8, ltk9, *]))
  replace kw0 : w9.cell? ⟨w.heap.size + 1, 0, none⟩ = some (.int .i64 g) := (hb.cell (by first | omega | (simp <;> omega))).trans (by (simp (maxDischargeDepth := 8) [go_sem, World.cell?_alloc_past, ltk2, ltk3, ltk4, ltk5, ltk6, ltk7, ltk8, ltk9, *]))
  replace kw1 : w9.cell? ⟨w.heap.size + 1, 1, none⟩ = some (.int .i64 h) := (hb.cell (by first | omega | (simp <;> omega))).trans (by (simp (maxDischargeDepth := 8) [go_sem, World.cell?_alloc_past, ltk2, ltk3, ltk4, ltk5, ltk6, ltk7, ltk8, ltk9, *]))
  replace kw2 : w9.cell? ⟨w.heap.size + 1, 2, none⟩ = some (.int .i64 i) := (hb.cell (by first | omega | (simp <;> omega))).trans (by (simp (maxDischargeDepth := 8) [go_sem, World.cell?_alloc_past, ltk2, ltk3, ltk4, ltk5, ltk6, ltk7, ltk8, ltk9, *]))
  replace kw3 : w9.cell? ⟨w.heap.size + 1, 3, none⟩ = some (.int .i64 j) := (hb.cell (by first | omega | (simp <;> omega))).trans (by (simp (maxDischargeDepth := 8) [go_sem, World.cell?_alloc_past, ltk2, ltk3, ltk4, ltk5, ltk6, ltk7, ltk8, ltk9, *]))
  replace kw4 : w9.cell? ⟨w.heap.size + 1, 4, none⟩ = some (.int .i64 k) := (hb.cell (by first | omega | (simp <;> omega))).trans (by (simp (maxDischargeDepth := 8) [go_sem, World.cell?_alloc_past, ltk2, ltk3, ltk4, ltk5, ltk6, ltk7, ltk8, ltk9, *]))
  replace kw5 : w9.cell? ⟨w.heap.size + 1, 5, none⟩ = some (.int .i64 l) := (hb.cell (by first | omega | (simp <;> omega))).trans (by (simp (maxDischargeDepth := 8) [go_sem, World.cell?_alloc_past, ltk2, ltk3, ltk4, ltk5, ltk6, ltk7, ltk8, ltk9, *]))
  replace kf0 : w9.cell? ⟨w.heap.size + 1 + 1, 0, none⟩ = some (.int .i64 s) := (hb.cell (by first | omega | (simp <;> omega))).trans (by (simp (maxDischargeDepth := 8) [go_sem, World.cell?_alloc_past, ltk2, ltk3, ltk4, ltk5, ltk6, ltk7, ltk8, ltk9, *]))
  replace kf1 : w9.cell? ⟨w.heap.size + 1 + 1, 1, none⟩ = some (.int .i64 t) := (hb.cell (by first | omega | (simp <;> omega))).trans (by (simp (maxDischargeDepth := 8) [go_sem, World.cell?_alloc_past, ltk2, ltk3, ltk4, ltk5, ltk6, ltk7, ltk8, ltk9, *]))
  replace r1_0 : w9.cell? ⟨w1.heap.size, 0, none⟩ = some (.int .i64 X00) := (hb.cell (by first | omega | (simp <;> omega))).trans (by (simp (maxDischargeDepth := 8) [go_sem, World.cell?_alloc_past, ltk2, ltk3, ltk4, ltk5, ltk6, ltk7, ltk8, ltk9, *]))
  replace r1_1 : w9.cell? ⟨w1.heap.size, 1, none⟩ = some (.int .i64 X01) := (hb.cell (by first | omega | (simp <;> omega))).trans (by (simp (maxDischargeDepth := 8) [go_sem, World.cell?_alloc_past, ltk2, ltk3, ltk4, ltk5, ltk6, ltk7, ltk8, ltk9, *]))
  replace r1_2 : w9.cell? ⟨w1.heap.size, 2, none⟩ = some (.int .i64 X02) := (hb.cell (by first | omega | (simp <;> omega))).trans (by (simp (maxDischargeDepth := 8) [go_sem, World.cell?_alloc_past, ltk2, ltk3, ltk4, ltk5, ltk6, ltk7, ltk8, ltk9, *]))
  replace r1_3 : w9.cell? ⟨w1.heap.size, 3, none⟩ = some (.int .i64 X03) := (hb.cell (by first | omega | (simp <;> omega))).trans (by (simp (maxDischargeDepth := 8) [go_sem, World.cell?_alloc_past, ltk2, ltk3, ltk4, ltk5, ltk6, ltk7, ltk8, ltk9, *]))
  replace r1_4 : w9.cell? ⟨w1.heap.size, 4, none⟩ = some (.int .i64 X04) := (hb.cell (by first | omega | (simp <;> omega))).trans (by (simp (maxDischargeDepth := 8) [go_sem, World.cell?_alloc_past, ltk2, ltk3, ltk4, ltk5, ltk6, ltk7, ltk8, ltk9, *]))
  replace r1_5 : w9.cell? ⟨w1.heap.size, 5, none⟩ = some (.int .i64 X05) := (hb.cell (by first | omega | (simp <;> omega))).trans (by (simp (maxDischargeDepth := 8) [go_sem, World.cell?_alloc_past, ltk2, ltk3, ltk4, ltk5, ltk6, ltk7, ltk8, ltk9, *]))
  replace r2_0 : w9.cell? ⟨w2.heap.size, 0, none⟩ = some (.int .i64 X00) := (hb.cell (by first | omega | (simp <;> omega))).trans (by (simp (maxDischargeDepth := 8) [go_sem, World.cell?_alloc_past, ltk2, ltk3, ltk4, ltk5, ltk6, ltk7, ltk8, ltk9, *]))
  replace r2_1 : w9.cell? ⟨w2.heap.size, 1, none⟩ = some (.int .i64 X01) := (hb.cell (by first | omega | (simp <;> omega))).trans (by (simp (maxDischargeDepth := 8) [go_sem, World.cell?_alloc_past, ltk2, ltk3, ltk4, ltk5, ltk6, ltk7, ltk8, ltk9, *]))
  replace r2_2 : w9.cell? ⟨w2.heap.size, 2, none⟩ = some (.int .i64 X02) := (hb.cell (by first | omega | (simp <;> omega))).trans (by (simp (maxDischargeDepth := 8) [go_sem, World.cell?_alloc_past, ltk2, ltk3, ltk4, ltk5, ltk6, ltk7, ltk8, ltk9, *]))
  replace r2_3 : w9.cell? ⟨w2.heap.size, 3, none⟩ = some (.int .i64 X03) := (hb.cell (by first | omega | (simp <;> omega))).trans (by (simp (maxDischargeDepth := 8) [go_sem, World.cell?_alloc_past, ltk2, ltk3, ltk4, ltk5, ltk6, ltk7, ltk8, ltk9, *]))
  replace r2_4 : w9.cell? ⟨w2.heap.size, 4, none⟩ = some (.int .i64 X04) := (hb.cell (by first | omega | (simp <;> omega))).trans (by (simp (maxDischargeDepth := 8) [go_sem, World.cell?_alloc_past, ltk2, ltk3, ltk4, ltk5, ltk6, ltk7, ltk8, ltk9, *]))
  replace r2_5 : w9.cell? ⟨w2.heap.size, 5, none⟩ = some (.int .i64 X05) := (hb.cell (by first | omega | (simp <;> omega))).trans (by (simp (maxDischargeDepth := 8) [go_sem, World.cell?_alloc_past, ltk2, ltk3, ltk4, ltk5, ltk6, ltk7, ltk8, ltk9, *]))
  replace r3_0 : w9.cell? ⟨w3.heap.size, 0, none⟩ = some (.int .i64 X10) := (hb.cell (by first | omega | (simp <;> omega))).trans (by (simp (maxDischargeDepth := 8) [go_sem, World.cell?_alloc_past, ltk2, ltk3, ltk4, ltk5, ltk6, ltk7, ltk8, ltk9, *]))
  replace r3_1 : w9.cell? ⟨w3.heap.size, 1, none⟩ = some (.int .i64 X11) := (hb.cell (by first | omega | (simp <;> omega))).trans (by (simp (maxDischargeDepth := 8) [go_sem, World.cell?_alloc_past, ltk2, ltk3, ltk4, ltk5, ltk6, ltk7, ltk8, ltk9, *]))
  replace r3_2 : w9.cell? ⟨w3.heap.size, 2, none⟩ = some (.int .i64 X12) := (hb.cell (by first | omega | (simp <;> omega))).trans (by (simp (maxDischargeDepth := 8) [go_sem, World.cell?_alloc_past, ltk2, ltk3, ltk4, ltk5, ltk6, ltk7, ltk8, ltk9, *]))
  replace r3_3 : w9.cell? ⟨w3.heap.size, 3, none⟩ = some (.int .i64 X13) := (hb.cell (by first | omega | (simp <;> omega))).trans (by (simp (maxDischargeDepth := 8) [go_sem, World.cell?_alloc_past, ltk2, ltk3, ltk4, ltk5, ltk6, ltk7, ltk8, ltk9, *]))
  replace r3_4 : w9.cell? ⟨w3.heap.size, 4, none⟩ = some (.int .i64 X14) := (hb.cell (by first | omega | (simp <;> omega))).trans (by (simp (maxDischargeDepth := 8) [go_sem, World.cell?_alloc_past, ltk2, ltk3, ltk4, ltk5, ltk6, ltk7, ltk8, ltk9, *]))
  replace r3_5 : w9.cell? ⟨w3.heap.size, 5, none⟩ = some (.int .i64 X15) := (hb.cell (by first | omega | (simp <;> omega))).trans (by (simp (maxDischargeDepth := 8) [go_sem, World.cell?_alloc_past, ltk2, ltk3, ltk4, ltk5, ltk6, ltk7, ltk8, ltk9, *]))
  replace r4_0 : w9.cell? ⟨w4.heap.size, 0, none⟩ = some (.int .i64 X10) := (hb.cell (by first | omega | (simp <;> omega))).trans (by (simp (maxDischargeDepth := 8) [go_sem, World.cell?_alloc_past, ltk2, ltk3, ltk4, ltk5, ltk6, ltk7, ltk8, ltk9, *]))
  replace r4_1 : w9.cell? ⟨w4.heap.size, 1, none⟩ = some (.int .i64 X11) := (hb.cell (by first | omega | (simp <;> omega))).trans (by (simp (maxDischargeDepth := 8) [go_sem, World.cell?_alloc_past, ltk2, ltk3, ltk4, ltk5, ltk6, ltk7, ltk8, ltk9, *]))
  replace r4_2 : w9.cell? ⟨w4.heap.size, 2, none⟩ = some (.int .i64 X12) := (hb.cell (by first | omega | (simp <;> omega))).trans (by (simp (maxDischargeDepth := 8) [go_sem, World.cell?_alloc_past, ltk2, ltk3, ltk4, ltk5, ltk6, ltk7, ltk8, ltk9, *]))
  replace r4_3 : w9.cell? ⟨w4.heap.size, 3, none⟩ = some (.int .i64 X13) := (hb.cell (by first | omega | (simp <;> omega))).trans (by (simp (maxDischargeDepth := 8) [go_sem, World.cell?_alloc_past, ltk2, ltk3, ltk4, ltk5, ltk6, ltk7, ltk8, ltk9, *]))
  replace r4_4 : w9.cell? ⟨w4.heap.size, 4, none⟩ = some (.int .i64 X14) := (hb.cell (by first | omega | (simp <;> omega))).trans (by (simp (maxDischargeDepth := 8) [go_sem, World.cell?_alloc_past, ltk2, ltk3, ltk4, ltk5, ltk6, ltk7, ltk8, ltk9, *]))
  replace r4_5 : w9.cell? ⟨w4.heap.size, 5, none⟩ = some (.int .i64 X15) := (hb.cell (by first | omega | (simp <;> omega))).trans (by (simp (maxDischargeDepth := 8) [go_sem, World.cell?_alloc_past, ltk2, ltk3, ltk4, ltk5, ltk6, ltk7, ltk8, ltk9, *]))
  replace r5_0 : w9.cell? ⟨w5.heap.size, 0, none⟩ = some (.int .i64 X20) := (hb.cell (by first | omega | (simp <;> omega))).trans (by (simp (maxDischargeDepth := 8) [go_sem, World.cell?_alloc_past, ltk2, ltk3, ltk4, ltk5, ltk6, ltk7, ltk8, ltk9, *]))
  replace r5_1 : w9.cell? ⟨w5.heap.size, 1, none⟩ = some (.int .i64 X21) := (hb.cell (by first | omega | (simp <;> omega))).trans (by (simp (maxDischargeDepth := 8) [go_sem, World.cell?_alloc_past, ltk2, ltk3, ltk4, ltk5, ltk6, ltk7, ltk8, ltk9, *]))
  replace r5_2 : w9.cell? ⟨w5.heap.size, 2, none⟩ = some (.int .i64 X22) := (hb.cell (by first | omega | (simp <;> omega))).trans (by (simp (maxDischargeDepth := 8) [go_sem, World.cell?_alloc_past, ltk2, ltk3, ltk4, ltk5, ltk6, ltk7, ltk8, ltk9, *]))
  replace r5_3 : w9.cell? ⟨w5.heap.size, 3, none⟩ = some (.int .i64 X23) := (hb.cell (by first | omega | (simp <;> omega))).trans (by (simp (maxDischargeDepth := 8) [go_sem, World.cell?_alloc_past, ltk2, ltk3, ltk4, ltk5, ltk6, ltk7, ltk8, ltk9, *]))
  replace r5_4 : w9.cell? ⟨w5.heap.size, 4, none⟩ = some (.int .i64 X24) := (hb.cell (by first | omega | (simp <;> omega))).trans (by (simp (maxDischargeDepth := 8) [go_sem, World.cell?_alloc_past, ltk2, ltk3, ltk4, ltk5, ltk6, ltk7, ltk8, ltk9, *]))
  replace r5_5 : w9.cell? ⟨w5.heap.size, 5, none⟩ = some (.int .i64 X25) := (hb.cell (by first | omega | (simp <;> omega))).trans (by (simp (maxDischargeDepth := 8) [go_sem, World.cell?_alloc_past, ltk2, ltk3, ltk4, ltk5, ltk6, ltk7, ltk8, ltk9, *]))
  replace r6_0 : w9.cell? ⟨w6.heap.size, 0, none⟩ = some (.int .i64 X20) := (hb.cell (by first | omega | (simp <;> omega))).trans (by (simp (maxDischargeDepth := 8) [go_sem, World.cell?_alloc_past, ltk2, ltk3, ltk4, ltk5, ltk6, ltk7, ltk8, ltk9, *]))
  replace r6_1 : w9.cell? ⟨w6.heap.size, 1, none⟩ = some (.int .i64 X21) := (hb.cell (by first | omega | (simp <;> omega))).trans (by (simp (maxDischargeDepth := 8) [go_sem, World.cell?_alloc_past, ltk2, ltk3, ltk4, ltk5, ltk6, ltk7, ltk8, ltk9, *]))
  replace r6_2 : w9.cell? ⟨w6.heap.size, 2, none⟩ = some (.int .i64 X22) := (hb.cell (by first | omega | (simp <;> omega))).trans (by (simp (maxDischargeDepth := 8) [go_sem, World.cell?_alloc_past, ltk2, ltk3, ltk4, ltk5, ltk6, ltk7, ltk8, ltk9, *]))
  replace r6_3 : w9.cell? ⟨w6.heap.size, 3, none⟩ = some (.int .i64 X23) := (hb.cell (by first | omega | (simp <;> omega))).trans (by (simp (maxDischargeDepth := 8) [go_sem, World.cell?_alloc_past, ltk2, ltk3, ltk4, ltk5, ltk6, ltk7, ltk8, ltk9, *]))
  replace r6_4 : w9.cell? ⟨w6.heap.size, 4, none⟩ = some (.int .i64 X24) := (hb.cell (by first | omega | (simp <;> omega))).trans (by (simp (maxDischargeDepth := 8) [go_sem, World.cell?_alloc_past, ltk2, ltk3, ltk4, ltk5, ltk6, ltk7, ltk8, ltk9, *]))
  replace r6_5 : w9.cell? ⟨w6.heap.size, 5, none⟩ = some (.int .i64 X25) := (hb.cell (by first | omega | (simp <;> omega))).trans (by (simp (maxDischargeDepth := 8) [go_sem, World.cell?_alloc_past, ltk2, ltk3, ltk4, ltk5, ltk6, ltk7, ltk8, ltk9, *]))
  replace r7_0 : w9.cell? ⟨w7.heap.size, 0, none⟩ = some (.int .i64 X30) := (hb.cell (by first | omega | (simp <;> omega))).trans (by (simp (maxDischargeDepth := 8) [go_sem, World.cell?_alloc_past, ltk2, ltk3, ltk4, ltk5, ltk6, ltk7, ltk8, ltk9, *]))
  replace r7_1 : w9.cell? ⟨w7.heap.size, 1, none⟩ = some (.int .i64 X31) := (hb.cell (by first | omega | (simp <;> omega))).trans (by (simp (maxDischargeDepth := 8) [go_sem, World.cell?_alloc_past, ltk2, ltk3, ltk4, ltk5, ltk6, ltk7, ltk8, ltk9, *]))
  have r8_0 : w9.cell? ⟨w8.heap.size, 0, none⟩ = some (.int .i64 X30) := (hb.cell (by first | omega | (simp <;> omega))).trans (by (simp (maxDischargeDepth := 8) [go_sem, World.cell?_alloc_past, ltk2, ltk3, ltk4, ltk5, ltk6, ltk7, ltk8, ltk9, *]))
  have r8_1 : w9.cell? ⟨w8.heap.size, 1, none⟩ = some (.int .i64 X31) := (hb.cell (by first | omega | (simp <;> omega))).trans (by (simp (maxDischargeDepth := 8) [go_sem, World.cell?_alloc_past, ltk2, ltk3, ltk4, ltk5, ltk6, ltk7, ltk8, ltk9, *]))
  clear hb HB8
  have zy0_9 : w.heap.size < w9.heap.size := by omega
  have zy1_9 : w.heap.size + 1 < w9.heap.size := by omega
  have zy2_9 : w.heap.size + 1 + 1 < w9.heap.size := by omega
  have zz_w1_9 : w1.heap.size < w9.heap.size := by omega
  have zz_w2_9 : w2.heap.size < w9.heap.size := by omega
  have zz_w3_9 : w3.heap.size < w9.heap.size := by omega
  have zz_w4_9 : w4.heap.size < w9.heap.size := by omega
  have zz_w5_9 : w5.heap.size < w9.heap.size := by omega
  have zz_w6_9 : w6.heap.size < w9.heap.size := by omega
  have zz_w7_9 : w7.heap.size < w9.heap.size := by omega
  have zz_w8_9 : w8.heap.size < w9.heap.size := by omega
  go_wp2_with fail
  with_reducible refine (R4 _).mono ?_
  rintro e w10 ⟨rfl, hb⟩
  have HB10 : Below w.heap.size w w10 := by
    refine Below.trans ?_ (hb.mono ?_)
    · (repeat (first | with_reducible exact HB9 | (with_reducible refine bal ?_ _) | (with_reducible refine below_drewN ?_ _) | (with_reducible refine Below.drew ?_) | (with_reducible refine bset ?_ (by first | omega | (simp <;> omega)) _)))
    · first | omega | (simp <;> omega)
  have zs10 : w9.heap.size + 1 < w10.heap.size + 1 := by have := hb.size; (try simp at this); omega
  replace kv0 : w10.cell? ⟨w.heap.size, 0, none⟩ = some (.int .i64 a) := (hb.cell (by first | omega | (simp <;> omega))).trans (by (simp (maxDischargeDepth := 8) [go_sem, World.cell?_alloc_past, ltk2, ltk3, ltk4, ltk5, ltk6, ltk7, ltk8, ltk9, *]))
  replace kv1 : w10.cell? ⟨w.heap.size, 1, none⟩ = some (.int .i64 b) := (hb.cell (by first | omega | (simp <;> omega))).trans (by (simp (maxDischargeDepth := 8) [go_sem, World.cell?_alloc_past, ltk2, ltk3, ltk4, ltk5, ltk6, ltk7, ltk8, ltk9, *]))
  replace kv2 : w10.cell? ⟨w.heap.size, 2, none⟩ = some (.int .i64 c) := (hb.cell (by first | omega | (simp <;> omega))).trans (by (simp (maxDischargeDepth := 8) [go_sem, World.cell?_alloc_past, ltk2, ltk3, ltk4, ltk5, ltk6, ltk7, ltk8, ltk9, *]))
  replace kv3 : w10.cell? ⟨w.heap.size, 3, none⟩ = some (.int .i64 d) := (hb.cell (by first | omega | (simp <;> omega))).trans (by (simp (maxDischargeDepth := 8) [go_sem, World.cell?_alloc_past, ltk2, ltk3, ltk4, ltk5, ltk6, ltk7, ltk8, ltk9, *]))
  replace kv4 : w10.cell? ⟨w.heap.size, 4, none⟩ = some (.int .i64 e) := (hb.cell (by first | omega | (simp <;> omega))).trans (by (simp (maxDischargeDepth := 8) [go_sem, World.cell?_alloc_past, ltk2, ltk3, ltk4, ltk5, ltk6, ltk7, ltk8, ltk9, *]))
  replace kv5 : w10.cell? ⟨w.heap.size, 5, none⟩ = some (.int .i64 f) := (hb.cell (by first | omega | (simp <;> omega))).trans (by (simp (maxDischargeDepth := 8) [go_sem, World.cell?_alloc_past, ltk2, ltk3, ltk4, ltk5, ltk6, ltk7, ltk8, ltk9, *]))
  replace kw0 : w10.cell? ⟨w.heap.size + 1, 0, none⟩ = some (.int .i64 g) := (hb.cell (by first | omega | (simp <;> omega))).trans (by (simp (maxDischargeDepth := 8) [go_sem, World.cell?_alloc_past, ltk2, ltk3, ltk4, ltk5, ltk6, ltk7, ltk8, ltk9, *]))
  replace kw1 : w10.cell? ⟨w.heap.size + 1, 1, none⟩ = some (.int .i64 h) := (hb.cell (by first | omega | (simp <;> omega))).trans (by (simp (maxDischargeDepth := 8) [go_sem, World.cell?_alloc_past, ltk2, ltk3, ltk4, ltk5, ltk6, ltk7, ltk8, ltk9, *]))
  replace kw2 : w10.cell? ⟨w.heap.size + 1, 2, none⟩ = some (.int .i64 i) := (hb.cell (by first | omega | (simp <;> omega))).trans (by (simp (maxDischargeDepth := 8) [go_sem, World.cell?_alloc_past, ltk2, ltk3, ltk4, ltk5, ltk6, ltk7, ltk8, ltk9, *]))
  replace kw3 : w10.cell? ⟨w.heap.size + 1, 3, none⟩ = some (.int .i64 j) := (hb.cell (by first | omega | (simp <;> omega))).trans (by (simp (maxDischargeDepth := 8) [go_sem, World.cell?_alloc_past, ltk2, ltk3, ltk4, ltk5, ltk6, ltk7, ltk8, ltk9, *]))
  replace kw4 : w10.cell? ⟨w.heap.size + 1, 4, none⟩ = some (.int .i64 k) := (hb.cell (by first | omega | (simp <;> omega))).trans (by (simp (maxDischargeDepth := 8) [go_sem, World.cell?_alloc_past, ltk2, ltk3, ltk4, ltk5, ltk6, ltk7, ltk8, ltk9, *]))
  replace kw5 : w10.cell? ⟨w.heap.size + 1, 5, none⟩ = some (.int .i64 l) := (hb.cell (by first | omega | (simp <;> omega))).trans (by (simp (maxDischargeDepth := 8) [go_sem, World.cell?_alloc_past, ltk2, ltk3, ltk4, ltk5, ltk6, ltk7, ltk8, ltk9, *]))
  replace kf0 : w10.cell? ⟨w.heap.size + 1 + 1, 0, none⟩ = some (.int .i64 s) := (hb.cell (by first | omega | (simp <;> omega))).trans (by (simp (maxDischargeDepth := 8) [go_sem, World.cell?_alloc_past, ltk2, ltk3, ltk4, ltk5, ltk6, ltk7, ltk8, ltk9, *]))
  replace kf1 : w10.cell? ⟨w.heap.size + 1 + 1, 1, none⟩ = some (.int .i64 t) := (hb.cell (by first | omega | (simp <;> omega))).trans (by (simp (maxDischargeDepth := 8) [go_sem, World.cell?_alloc_past, ltk2, ltk3, ltk4, ltk5, ltk6, ltk7, ltk8, ltk9, *]))
  replace r1_0 : w10.cell? ⟨w1.heap.size, 0, none⟩ = some (.int .i64 X00) := (hb.cell (by first | omega | (simp <;> omega))).trans (by (simp (maxDischargeDepth := 8) [go_sem, World.cell?_alloc_past, ltk2, ltk3, ltk4, ltk5, ltk6, ltk7, ltk8, ltk9, *]))
  replace r1_1 : w10.cell? ⟨w1.heap.size, 1, none⟩ = some (.int .i64 X01) := (hb.cell (by first | omega | (simp <;> omega))).trans (by (simp (maxDischargeDepth := 8) [go_sem, World.cell?_alloc_past, ltk2, ltk3, ltk4, ltk5, ltk6, ltk7, ltk8, ltk9, *]))
  replace r1_2 : w10.cell? ⟨w1.heap.size, 2, none⟩ = some (.int .i64 X02) := (hb.cell (by first | omega | (simp <;> omega))).trans (by (simp (maxDischargeDepth := 8) [go_sem, World.cell?_alloc_past, ltk2, ltk3, ltk4, ltk5, ltk6, ltk7, ltk8, ltk9, *]))
  replace r1_3 : w10.cell? ⟨w1.heap.size, 3, none⟩ = some (.int .i64 X03) := (hb.cell (by first | omega | (simp <;> omega))).trans (by (simp (maxDischargeDepth := 8) [go_sem, World.cell?_alloc_past, ltk2, ltk3, ltk4, ltk5, ltk6, ltk7, ltk8, ltk9, *]))
  replace r1_4 : w10.cell? ⟨w1.heap.size, 4, none⟩ = some (.int .i64 X04) := (hb.cell (by first | omega | (simp <;> omega))).trans (by (simp (maxDischargeDepth := 8) [go_sem, World.cell?_alloc_past, ltk2, ltk3, ltk4, ltk5, ltk6, ltk7, ltk8, ltk9, *]))
  replace r1_5 : w10.cell? ⟨w1.heap.size, 5, none⟩ = some (.int .i64 X05) := (hb.cell (by first | omega | (simp <;> omega))).trans (by (simp (maxDischargeDepth := 8) [go_sem, World.cell?_alloc_past, ltk2, ltk3, ltk4, ltk5, ltk6, ltk7, ltk8, ltk9, *]))
  replace r2_0 : w10.cell? ⟨w2.heap.size, 0, none⟩ = some (.int .i64 X00) := (hb.cell (by first | omega | (simp <;> omega))).trans (by (simp (maxDischargeDepth := 8) [go_sem, World.cell?_alloc_past, ltk2, ltk3, ltk4, ltk5, ltk6, ltk7, ltk8, ltk9, *]))
  replace r2_1 : w10.cell? ⟨w2.heap.size, 1, none⟩ = some (.int .i64 X01) := (hb.cell (by first | omega | (simp <;> omega))).trans (by (simp (maxDischargeDepth := 8) [go_sem, World.cell?_alloc_past, ltk2, ltk3, ltk4, ltk5, ltk6, ltk7, ltk8, ltk9, *]))
  replace r2_2 : w10.cell? ⟨w2.heap.size, 2, none⟩ = some (.int .i64 X02) := (hb.cell (by first | omega | (simp <;> omega))).trans (by (simp (maxDischargeDepth := 8) [go_sem, World.cell?_alloc_past, ltk2, ltk3, ltk4, ltk5, ltk6, ltk7, ltk8, ltk9, *]))
  replace r2_3 : w10.cell? ⟨w2.heap.size, 3, none⟩ = some (.int .i64 X03) := (hb.cell (by first | omega | (simp <;> omega))).trans (by (simp (maxDischargeDepth := 8) [go_sem, World.cell?_alloc_past, ltk2, ltk3, ltk4, ltk5, ltk6, ltk7, ltk8, ltk9, *]))
  replace r2_4 : w10.cell? ⟨w2.heap.size, 4, none⟩ = some (.int .i64 X04) := (hb.cell (by first | omega | (simp <;> omega))).trans (by (simp (maxDischargeDepth := 8) [go_sem, World.cell?_alloc_past, ltk2, ltk3, ltk4, ltk5, ltk6, ltk7, ltk8, ltk9, *]))
  replace r2_5 : w10.cell? ⟨w2.heap.size, 5, none⟩ = some (.int .i64 X05) := (hb.cell (by first | omega | (simp <;> omega))).trans (by (simp (maxDischargeDepth := 8) [go_sem, World.cell?_alloc_past, ltk2, ltk3, ltk4, ltk5, ltk6, ltk7, ltk8, ltk9, *]))
  replace r3_0 : w10.cell? ⟨w3.heap.size, 0, none⟩ = some (.int .i64 X10) := (hb.cell (by first | omega | (simp <;> omega))).trans (by (simp (maxDischargeDepth := 8) [go_sem, World.cell?_alloc_past, ltk2, ltk3, ltk4, ltk5, ltk6, ltk7, ltk8, ltk9, *]))
  replace r3_1 : w10.cell? ⟨w3.heap.size, 1, none⟩ = some (.int .i64 X11) := (hb.cell (by first | omega | (simp <;> omega))).trans (by (simp (maxDischargeDepth := 8) [go_sem, World.cell?_alloc_past, ltk2, ltk3, ltk4, ltk5, ltk6, ltk7, ltk8, ltk9, *]))
  replace r3_2 : w10.cell? ⟨w3.heap.size, 2, none⟩ = some (.int .i64 X12) := (hb.cell (by first | omega | (simp <;> omega))).trans (by (simp (maxDischargeDepth := 8) [go_sem, World.cell?_alloc_past, ltk2, ltk3, ltk4, ltk5, ltk6, ltk7, ltk8, ltk9, *]))
  replace r3_3 : w10.cell? ⟨w3.heap.size, 3, none⟩ = some (.int .i64 X13) := (hb.cell (by first | omega | (simp <;> omega))).trans (by (simp (maxDischargeDepth := 8) [go_sem, World.cell?_alloc_past, ltk2, ltk3, ltk4, ltk5, ltk6, ltk7, ltk8, ltk9, *]))
  replace r3_4 : w10.cell? ⟨w3.heap.size, 4, none⟩ = some (.int .i64 X14) := (hb.cell (by first | omega | (simp <;> omega))).trans (by (simp (maxDischargeDepth := 8) [go_sem, World.cell?_alloc_past, ltk2, ltk3, ltk4, ltk5, ltk6, ltk7, ltk8, ltk9, *]))
  replace r3_5 : w10.cell? ⟨w3.heap.size, 5, none⟩ = some (.int .i64 X15) := (hb.cell (by first | omega | (simp <;> omega))).trans (by (simp (maxDischargeDepth := 8) [go_sem, World.cell?_alloc_past, ltk2, ltk3, ltk4, ltk5, ltk6, ltk7, ltk8, ltk9, *]))
  replace r4_0 : w10.cell? ⟨w4.heap.size, 0, none⟩ = some (.int .i64 X10) := (hb.cell (by first | omega | (simp <;> omega))).trans (by (simp (maxDischargeDepth := 8) [go_sem, World.cell?_alloc_past, ltk2, ltk3, ltk4, ltk5, ltk6, ltk7, ltk8, ltk9, *]))
  replace r4_1 : w10.cell? ⟨w4.heap.size, 1, none⟩ = some (.int .i64 X11) := (hb.cell (by first | omega | (simp <;> omega))).trans (by (simp (maxDischargeDepth := 8) [go_sem, World.cell?_alloc_past, ltk2, ltk3, ltk4, ltk5, ltk6, ltk7, ltk8, ltk9, *]))
  replace r4_2 : w10.cell? ⟨w4.heap.size, 2, none⟩ = some (.int .i64 X12) := (hb.cell (by first | omega | (simp <;> omega))).trans (by (simp (maxDischargeDepth := 8) [go_sem, World.cell?_alloc_past, ltk2, ltk3, ltk4, ltk5, ltk6, ltk7, ltk8, ltk9, *]))
  replace r4_3 : w10.cell? ⟨w4.heap.size, 3, none⟩ = some (.int .i64 X13) := (hb.cell (by first | omega | (simp <;> omega))).trans (by (simp (maxDischargeDepth := 8) [go_sem, World.cell?_alloc_past, ltk2, ltk3, ltk4, ltk5, ltk6, ltk7, ltk8, ltk9, *]))
  replace r4_4 : w10.cell? ⟨w4.heap.size, 4, none⟩ = some (.int .i64 X14) := (hb.cell (by first | omega | (simp <;> omega))).trans (by (simp (maxDischargeDepth := 8) [go_sem, World.cell?_alloc_past, ltk2, ltk3, ltk4, ltk5, ltk6, ltk7, ltk8, ltk9, *]))
  replace r4_5 : w10.cell? ⟨w4.heap.size, 5, none⟩ = some (.int .i64 X15) := (hb.cell (by first | omega | (simp <;> omega))).trans (by (simp (maxDischargeDepth := 8) [go_sem, World.cell?_alloc_past, ltk2, ltk3, ltk4, ltk5, ltk6, ltk7, ltk8, ltk9, *]))
  replace r5_0 : w10.cell? ⟨w5.heap.size, 0, none⟩ = some (.int .i64 X20) := (hb.cell (by first | omega | (simp <;> omega))).trans (by (simp (maxDischargeDepth := 8) [go_sem, World.cell?_alloc_past, ltk2, ltk3, ltk4, ltk5, ltk6, ltk7, ltk8, ltk9, *]))
  replace r5_1 : w10.cell? ⟨w5.heap.size, 1, none⟩ = some (.int .i64 X21) := (hb.cell (by first | omega | (simp <;> omega))).trans (by (simp (maxDischargeDepth := 8) [go_sem, World.cell?_alloc_past, ltk2, ltk3, ltk4, ltk5, ltk6, ltk7, ltk8, ltk9, *]))
  replace r5_2 : w10.cell? ⟨w5.heap.size, 2, none⟩ = some (.int .i64 X22) := (hb.cell (by first | omega | (simp <;> omega))).trans (by (simp (maxDischargeDepth := 8) [go_sem, World.cell?_alloc_past, ltk2, ltk3, ltk4, ltk5, ltk6, ltk7, ltk8, ltk9, *]))
  replace r5_3 : w10.cell? ⟨w5.heap.size, 3, none⟩ = some (.int .i64 X23) := (hb.cell (by first | omega | (simp <;> omega))).trans (by (simp (maxDischargeDepth := 8) [go_sem, World.cell?_alloc_past, ltk2, ltk3, ltk4, ltk5, ltk6, ltk7, ltk8, ltk9, *]))
  replace r5_4 : w10.cell? ⟨w5.heap.size, 4, none⟩ = some (.int .i64 X24) := (hb.cell (by first | omega | (simp <;> omega))).trans (by (simp (maxDischargeDepth := 8) [go_sem, World.cell?_alloc_past, ltk2, ltk3, ltk4, ltk5, ltk6, ltk7, ltk8, ltk9, *]))
  replace r5_5 : w10.cell? ⟨w5.heap.size, 5, none⟩ = some (.int .i64 X25) := (hb.cell (by first | omega | (simp <;> omega))).trans (by (simp (maxDischargeDepth := 8) [go_sem, World.cell?_alloc_past, ltk2, ltk3, ltk4, ltk5, ltk6, ltk7, ltk8, ltk9, *]))
  replace r6_0 : w10.cell? ⟨w6.heap.size, 0, none⟩ = some (.int .i64 X20) := (hb.cell (by first | omega | (simp <;> omega))).trans (by (simp (maxDischargeDepth := 8) [go_sem, World.cell?_alloc_past, ltk2, ltk3, ltk4, ltk5, ltk6, ltk7, ltk8, ltk9, *]))
  replace r6_1 : w10.cell? ⟨w6.heap.size, 1, none⟩ = some (.int .i64 X21) := (hb.cell (by first | omega | (simp <;> omega))).trans (by (simp (maxDischargeDepth := 8) [go_sem, World.cell?_alloc_past, ltk2, ltk3, ltk4, ltk5, ltk6, ltk7, ltk8, ltk9, *]))
  replace r6_2 : w10.cell? ⟨w6.heap.size, 2, none⟩ = some (.int .i64 X22) := (hb.cell (by first | omega | (simp <;> omega))).trans (by (simp (maxDischargeDepth := 8) [go_sem, World.cell?_alloc_past, ltk2, ltk3, ltk4, ltk5, ltk6, ltk7, ltk8, ltk9, *]))
  replace r6_3 : w10.cell? ⟨w6.heap.size, 3, none⟩ = some (.int .i64 X23) := (hb.cell (by first | omega | (simp <;> omega))).trans (by (simp (maxDischargeDepth := 8) [go_sem, World.cell?_alloc_past, ltk2, ltk3, ltk4, ltk5, ltk6, ltk7, ltk8, ltk9, *]))
  replace r6_4 : w10.cell? ⟨w6.heap.size, 4, none⟩ = some (.int .i64 X24) := (hb.cell (by first | omega | (simp <;> omega))).trans (by (simp (maxDischargeDepth := 8) [go_sem, World.cell?_alloc_past, ltk2, ltk3, ltk4, ltk5, ltk6, ltk7, ltk8, ltk9, *]))
  replace r6_5 : w10.cell? ⟨w6.heap.size, 5, none⟩ = some (.int .i64 X25) := (hb.cell (by first | omega | (simp <;> omega))).trans (by (simp (maxDischargeDepth := 8) [go_sem, World.cell?_alloc_past, ltk2, ltk3, ltk4, ltk5, ltk6, ltk7, ltk8, ltk9, *]))
  replace r7_0 : w10.cell? ⟨w7.heap.size, 0, none⟩ = some (.int .i64 X30) := (hb.cell (by first | omega | (simp <;> omega))).trans (by (simp (maxDischargeDepth := 8) [go_sem, World.cell?_alloc_past, ltk2, ltk3, ltk4, ltk5, ltk6, ltk7, ltk8, ltk9, *]))
  replace r7_1 : w10.cell? ⟨w7.heap.size, 1, none⟩ = some (.int .i64 X31) := (hb.cell (by first | omega | (simp <;> omega))).trans (by (simp (maxDischargeDepth := 8) [go_sem, World.cell?_alloc_past, ltk2, ltk3, ltk4, ltk5, ltk6, ltk7, ltk8, ltk9, *]))
  replace r8_0 : w10.cell? ⟨w8.heap.size, 0, none⟩ = some (.int .i64 X30) := (hb.cell (by first | omega | (simp <;> omega))).trans (by (simp (maxDischargeDepth := 8) [go_sem, World.cell?_alloc_past, ltk2, ltk3, ltk4, ltk5, ltk6, ltk7, ltk8, ltk9, *]))
  replace r8_1 : w10.cell? ⟨w8.heap.size, 1, none⟩ = some (.int .i64 X31) := (hb.cell (by first | omega | (simp <;> omega))).trans (by (simp (maxDischargeDepth := 8) [go_sem, World.cell?_alloc_past, ltk2, ltk3, ltk4, ltk5, ltk6, ltk7, ltk8, ltk9, *]))
  have r9_0 : w10.cell? ⟨w9.heap.size, 0, none⟩ = some (.int .i64 X40) := (hb.cell (by first | omega | (simp <;> omega))).trans (by (simp (maxDischargeDepth := 8) [go_sem, World.cell?_alloc_past, ltk2, ltk3, ltk4, ltk5, ltk6, ltk7, ltk8, ltk9, *]))
  have r9_1 : w10.cell? ⟨w9.heap.size, 1, none⟩ = some (.int .i64 X41) := (hb.cell (by first | omega | (simp <;> omega))).trans (by (simp (maxDischargeDepth := 8) [go_sem, World.cell?_alloc_past, ltk2, ltk3, ltk4, ltk5, ltk6, ltk7, ltk8, ltk9, *]))
  have r9_2 : w10.cell? ⟨w9.heap.size, 2, none⟩ = some (.int .i64 X42) := (hb.cell (by first | omega | (simp <;> omega))).trans (by (simp (maxDischargeDepth := 8) [go_sem, World.cell?_alloc_past, ltk2, ltk3, ltk4, ltk5, ltk6, ltk7, ltk8, ltk9, *]))
  have r9_3 : w10.cell? ⟨w9.heap.size, 3, none⟩ = some (.int .i64 X43) := (hb.cell (by first | omega | (simp <;> omega))).trans (by (simp (maxDischargeDepth := 8) [go_sem, World.cell?_alloc_past, ltk2, ltk3, ltk4, ltk5, ltk6, ltk7, ltk8, ltk9, *]))
  have r9_4 : w10.cell? ⟨w9.heap.size, 4, none⟩ = some (.int .i64 X44) := (hb.cell (by first | omega | (simp <;> omega))).trans (by (simp (maxDischargeDepth := 8) [go_sem, World.cell?_alloc_past, ltk2, ltk3, ltk4, ltk5, ltk6, ltk7, ltk8, ltk9, *]))
  have r9_5 : w10.cell? ⟨w9.heap.size, 5, none⟩ = some (.int .i64 X45) := (hb.cell (by first | omega | (simp <;> omega))).trans (by (simp (maxDischargeDepth := 8) [go_sem, World.cell?_alloc_past, ltk2, ltk3, ltk4, ltk5, ltk6, ltk7, ltk8, ltk9, *]))
  clear hb HB9
  have zy0_10 : w.heap.size < w10.heap.size := by omega
  have zy1_10 : w.heap.size + 1 < w10.heap.size := by omega
  have zy2_10 : w.heap.size + 1 + 1 < w10.heap.size := by omega
  have zz_w1_10 : w1.heap.size < w10.heap.size := by omega
  have zz_w2_10 : w2.heap.size < w10.heap.size := by omega
  have zz_w3_10 : w3.heap.size < w10.heap.size := by omega
  have zz_w4_10 : w4.heap.size < w10.heap.size := by omega
  have zz_w5_10 : w5.heap.size < w10.heap.size := by omega
  have zz_w6_10 : w6.heap.size < w10.heap.size := by omega
  have zz_w7_10 : w7.heap.size < w10.heap.size := by omega
  have zz_w8_10 : w8.heap.size < w10.heap.size := by omega
  have zz_w9_10 : w9.heap.size < w10.heap.size := by omega
  clear A0 R0 A1 R1 A2 R2 A3 R3 A4 R4 kw0 kw1 kw2 kw3 kw4 kw5 kf0 kf1
  go_wp2_with fail
  have dz1 : ∀ (W : World) (l : List Obj) (d : Nat), (ext W.drew l d) = (ext W l d) := fun _ _ _ => rfl
  have dz2 : ∀ (W : World) (l : List Obj) (n d : Nat), (ext (W.drewN n) l d) = (ext W l d) := fun _ _ _ _ => rfl
  go_region_held3 (fun w' => w'.cell? ⟨w.heap.size, 0, none⟩ = some (.int .i64 a) ∧ w'.cell? ⟨w.heap.size, 1, none⟩ = some (.int .i64 b) ∧ w'.cell? ⟨w.heap.size, 2, none⟩ = some (.int .i64 c) ∧ w'.cell? ⟨w.heap.size, 3, none⟩ = some (.int .i64 d) ∧ w'.cell? ⟨w.heap.size, 4, none⟩ = some (.int .i64 e) ∧ w'.cell? ⟨w.heap.size, 5, none⟩ = some (.int .i64 f) ∧ w'.cell? ⟨w1.heap.size, 0, none⟩ = some (.int .i64 X00) ∧ w'.cell? ⟨w1.heap.size, 1, none⟩ = some (.int .i64 X01) ∧ w'.cell? ⟨w1.heap.size, 2, none⟩ = some (.int .i64 X02) ∧ w'.cell? ⟨w1.heap.size, 3, none⟩ = some (.int .i64 X03) ∧ w'.cell? ⟨w1.heap.size, 4, none⟩ = some (.int .i64 X04) ∧ w'.cell? ⟨w1.heap.size, 5, none⟩ = some (.int .i64 X05) ∧ w'.cell? ⟨w2.heap.size, 0, none⟩ = some (.int .i64 X00) ∧ w'.cell? ⟨w2.heap.size, 1, none⟩ = some (.int .i64 X01) ∧ w'.cell? ⟨w2.heap.size, 2, none⟩ = some (.int .i64 X02) ∧ w'.cell? ⟨w2.heap.size, 3, none⟩ = some (.int .i64 X03) ∧ w'.cell? ⟨w2.heap.size, 4, none⟩ = some (.int .i64 X04) ∧ w'.cell? ⟨w2.heap.size, 5, none⟩ = some (.int .i64 X05) ∧ w'.cell? ⟨w3.heap.size, 0, none⟩ = some (.int .i64 X10) ∧ w'.cell? ⟨w3.heap.size, 1, none⟩ = some (.int .i64 X11) ∧ w'.cell? ⟨w3.heap.size, 2, none⟩ = some (.int .i64 X12) ∧ w'.cell? ⟨w3.heap.size, 3, none⟩ = some (.int .i64 X13) ∧ w'.cell? ⟨w3.heap.size, 4, none⟩ = some (.int .i64 X14) ∧ w'.cell? ⟨w3.heap.size, 5, none⟩ = some (.int .i64 X15) ∧ w'.cell? ⟨w4.heap.size, 0, none⟩ = some (.int .i64 X10) ∧ w'.cell? ⟨w4.heap.size, 1, none⟩ = some (.int .i64 X11) ∧ w'.cell? ⟨w4.heap.size, 2, none⟩ = some (.int .i64 X12) ∧ w'.cell? ⟨w4.heap.size, 3, none⟩ = some (.int .i64 X13) ∧ w'.cell? ⟨w4.heap.size, 4, none⟩ = some (.int .i64 X14) ∧ w'.cell? ⟨w4.heap.size, 5, none⟩ = some (.int .i64 X15) ∧ w'.cell? ⟨w5.heap.size, 0, none⟩ = some (.int .i64 X20) ∧ w'.cell? ⟨w5.heap.size, 1, none⟩ = some (.int .i64 X21) ∧ w'.cell? ⟨w5.heap.size, 2, none⟩ = some (.int .i64 X22) ∧ w'.cell? ⟨w5.heap.size, 3, none⟩ = some (.int .i64 X23) ∧ w'.cell? ⟨w5.heap.size, 4, none⟩ = some (.int .i64 X24) ∧ w'.cell? ⟨w5.heap.size, 5, none⟩ = some (.int .i64 X25) ∧ w'.cell? ⟨w6.heap.size, 0, none⟩ = some (.int .i64 X20) ∧ w'.cell? ⟨w6.heap.size, 1, none⟩ = some (.int .i64 X21) ∧ w'.cell? ⟨w6.heap.size, 2, none⟩ = some (.int .i64 X22) ∧ w'.cell? ⟨w6.heap.size, 3, none⟩ = some (.int .i64 X23) ∧ w'.cell? ⟨w6.heap.size, 4, none⟩ = some (.int .i64 X24) ∧ w'.cell? ⟨w6.heap.size, 5, none⟩ = some (.int .i64 X25) ∧ w'.cell? ⟨w7.heap.size, 0, none⟩ = some (.int .i64 X30) ∧ w'.cell? ⟨w7.heap.size, 1, none⟩ = some (.int .i64 X31) ∧ w'.cell? ⟨w8.heap.size, 0, none⟩ = some (.int .i64 X30) ∧ w'.cell? ⟨w8.heap.size, 1, none⟩ = some (.int .i64 X31) ∧ w'.cell? ⟨w9.heap.size, 0, none⟩ = some (.int .i64 X40) ∧ w'.cell? ⟨w9.heap.size, 1, none⟩ = some (.int .i64 X41) ∧ w'.cell? ⟨w9.heap.size, 2, none⟩ = some (.int .i64 X42) ∧ w'.cell? ⟨w9.heap.size, 3, none⟩ = some (.int .i64 X43) ∧ w'.cell? ⟨w9.heap.size, 4, none⟩ = some (.int .i64 X44) ∧ w'.cell? ⟨w9.heap.size, 5, none⟩ = some (.int .i64 X45) ∧ w'.cell? ⟨w10.heap.size, 0, none⟩ = some (.int .i64 X40) ∧ w'.cell? ⟨w10.heap.size, 1, none⟩ = some (.int .i64 X41) ∧ w'.cell? ⟨w10.heap.size, 2, none⟩ = some (.int .i64 X42) ∧ w'.cell? ⟨w10.heap.size, 3, none⟩ = some (.int .i64 X43) ∧ w'.cell? ⟨w10.heap.size, 4, none⟩ = some (.int .i64 X44) ∧ w'.cell? ⟨w10.heap.size, 5, none⟩ = some (.int .i64 X45)) (simp (maxDischargeDepth := 8) [go_sem, World.cell?_alloc_past, ltk2, ltk3, ltk4, ltk5, ltk6, ltk7, ltk8, ltk9, *])
    ((first
      | (go_at_call 38; with_reducible refine (C1 _).mono ?_; rintro e w' ⟨rfl, hb⟩; obtain ⟨l9, d9, rfl⟩ := toExt hb; clear hb)
      | (go_at_call 39; with_reducible refine (C2 _).mono ?_; rintro e w' ⟨rfl, hb⟩; obtain ⟨l9, d9, rfl⟩ := toExt hb; clear hb)))
  all_goals (try go_wp2)
  all_goals go_ret
  all_goals exact ⟨rfl, by (repeat (first | with_reducible exact HB10 | (with_reducible refine bext ?_ _ _) | (with_reducible refine below_drewN ?_ _) | (with_reducible refine Below.drew ?_) | (with_reducible refine bal ?_ _) | (with_reducible refine bset ?_ (by first | omega | (simp <;> omega)) _)))⟩
end Go.Proofs.Ytbckjccbihnlnaa
