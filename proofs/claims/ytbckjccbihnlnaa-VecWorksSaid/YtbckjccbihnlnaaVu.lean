/-
  P2.2: dot products of package vec.
-/
import Derived.Test.YtbckjccbihnlnaaVm
import Derived.Test.YtbckjccbihnlnaaVg
import Derived.Test.YtbckjccbihnlnaaFz
import Derived.Deep.RegionLaw
import Derived.Deep.DeepCutAuto
namespace Go.Proofs.Ytbckjccbihnlnaa
open Go.RowKit
set_option linter.unusedVariables false
set_option linter.unusedSimpArgs false

set_option maxRecDepth 100000 in
set_option maxHeartbeats 6400000 in
theorem vec_Dot (a b c d e f g h i j k l : Int) (p1 : okC a b) (p2 : okC c d) (p3 : okC e f) (q1 : okC g h) (q2 : okC i j) (q3 : okC k l) (w : World) :
    Calls Try.prog 34 #[.agg #[.int .i64 a, .int .i64 b, .int .i64 c, .int .i64 d, .int .i64 e, .int .i64 f], .agg #[.int .i64 g, .int .i64 h, .int .i64 i, .int .i64 j, .int .i64 k, .int .i64 l]] w fun x w' => x = .returned (.tuple #[.agg #[.int .i64 (dtN a b c d e f g h i j k l), .int .i64 (dtD a b c d e f g h i j k l)], .int .i64 (dtE a b c d e f g h i j k l)]) ∧ Below w.heap.size w w' := by
  have E1 : Hid (okV a b c d e f = true ∧ okV g h i j k l = true → ∀ w, Calls Try.prog 88 #[.agg #[.int .i64 a, .int .i64 b, .int .i64 c, .int .i64 d, .int .i64 e, .int .i64 f], .agg #[.int .i64 g, .int .i64 h, .int .i64 i, .int .i64 j, .int .i64 k, .int .i64 l]] w fun x w' => x = .returned (.tuple #[.agg #[.int .i64 (dtN a b c d e f g h i j k l), .int .i64 (dtD a b c d e f g h i j k l)], .int .i64 (dtE a b c d e f g h i j k l)]) ∧ Below w.heap.size w w') := Lib.hid (fun ho w => by
    unfold dtN dtD dtE; rw [if_pos ho, if_pos ho, if_pos ho]; exact vec_dot a b c d e f g h i j k l ho.1 ho.2 w)
  have E2 : Hid (¬ (okV a b c d e f = true ∧ okV g h i j k l = true) → dtN a b c d e f g h i j k l = 0 ∧ dtD a b c d e f g h i j k l = 0 ∧ dtE a b c d e f g h i j k l = 8) := Lib.hid (fun ho => by
    unfold dtN dtD dtE; rw [if_neg ho, if_neg ho, if_neg ho]; exact ⟨rfl, rfl, rfl⟩)
  generalize dtN a b c d e f g h i j k l = X1 at *
  generalize dtD a b c d e f g h i j k l = X2 at *
  generalize dtE a b c d e f g h i j k l = X3 at *
  have BD := Lib.hid (And.intro (And.intro p1 (And.intro p2 p3)) (And.intro q1 (And.intro q2 q3)))
  clear p1 p2 p3 q1 q2 q3
  have L1 := fun w => vec_list a b c d e f w
  have L2 := fun w => vec_list g h i j k l w
  have dAl := dAl; have dSt := dSt; have xC := ext_cell; have xF := ext_frozen; have xS := ext_set; have xN := ext_drewN; have xD := ext_drew; have xX := ext_ext; have xZ := xs_size
  have hxa0 := xa0; have hxb0 := xb0; have hxc0 := xc0; have hxd0 := xd0; have hxe0 := xe0; have hxf0 := xf0; have hxg0 := xg0; have hxh0 := xh0; have hxi0 := xi0; have hxj0 := xj0; have hxa1 := xa1; have hxb1 := xb1; have hxc1 := xc1; have hxd1 := xd1; have hxe1 := xe1; have hxf1 := xf1; have hxg1 := xg1; have hxh1 := xh1; have hxi1 := xi1; have hxj1 := xj1; have hxa2 := xa2; have hxb2 := xb2; have hxc2 := xc2; have hxd2 := xd2; have hxe2 := xe2; have hxf2 := xf2; have hxg2 := xg2; have hxh2 := xh2; have hxi2 := xi2; have hxj2 := xj2; have hxk0 := xk0; have hxk1 := xk1
  go_enter Try.func34, Try.ntmps34
  have dz1 : ∀ (W : World) (l : List Obj) (d : Nat), (ext W.drew l d) = (ext W l d) := fun _ _ _ => rfl
  have dz2 : ∀ (W : World) (l : List Obj) (n d : Nat), (ext (W.drewN n) l d) = (ext W l d) := fun _ _ _ _ => rfl
  go_wp2_with fail
  obtain ⟨wa, hW⟩ : ∃ wa, wa = (((w.alloc (.cells #[.int .i64 a, .int .i64 b, .int .i64 c, .int .i64 d, .int .i64 e, .int .i64 f] 42)).alloc (.cells #[.int .i64 g, .int .i64 h, .int .i64 i, .int .i64 j, .int .i64 k, .int .i64 l] 42)).alloc (.cells #[.int .i64 0, .int .i64 0] 23)) := ⟨_, rfl⟩
  rw [← hW]
  have kb0 : wa.cell? ⟨w.heap.size, 0, none⟩ = some (.int .i64 a) := by rw [hW]; (simp (maxDischargeDepth := 8) [go_sem, World.cell?_alloc_past, ltk2, ltk3, ltk4, ltk5, ltk6, ltk7, ltk8, ltk9, *])
  have kb1 : wa.cell? ⟨w.heap.size, 1, none⟩ = some (.int .i64 b) := by rw [hW]; (simp (maxDischargeDepth := 8) [go_sem, World.cell?_alloc_past, ltk2, ltk3, ltk4, ltk5, ltk6, ltk7, ltk8, ltk9, *])
  have kb2 : wa.cell? ⟨w.heap.size, 2, none⟩ = some (.int .i64 c) := by rw [hW]; (simp (maxDischargeDepth := 8) [go_sem, World.cell?_alloc_past, ltk2, ltk3, ltk4, ltk5, ltk6, ltk7, ltk8, ltk9, *])
  have kb3 : wa.cell? ⟨w.heap.size, 3, none⟩ = some (.int .i64 d) := by rw [hW]; (simp (maxDischargeDepth := 8) [go_sem, World.cell?_alloc_past, ltk2, ltk3, ltk4, ltk5, ltk6, ltk7, ltk8, ltk9, *])
  have kb4 : wa.cell? ⟨w.heap.size, 4, none⟩ = some (.int .i64 e) := by rw [hW]; (simp (maxDischargeDepth := 8) [go_sem, World.cell?_alloc_past, ltk2, ltk3, ltk4, ltk5, ltk6, ltk7, ltk8, ltk9, *])
  have kb5 : wa.cell? ⟨w.heap.size, 5, none⟩ = some (.int .i64 f) := by rw [hW]; (simp (maxDischargeDepth := 8) [go_sem, World.cell?_alloc_past, ltk2, ltk3, ltk4, ltk5, ltk6, ltk7, ltk8, ltk9, *])
  have kc0 : wa.cell? ⟨w.heap.size + 1, 0, none⟩ = some (.int .i64 g) := by rw [hW]; (simp (maxDischargeDepth := 8) [go_sem, World.cell?_alloc_past, ltk2, ltk3, ltk4, ltk5, ltk6, ltk7, ltk8, ltk9, *])
  have kc1 : wa.cell? ⟨w.heap.size + 1, 1, none⟩ = some (.int .i64 h) := by rw [hW]; (simp (maxDischargeDepth := 8) [go_sem, World.cell?_alloc_past, ltk2, ltk3, ltk4, ltk5, ltk6, ltk7, ltk8, ltk9, *])
  have kc2 : wa.cell? ⟨w.heap.size + 1, 2, none⟩ = some (.int .i64 i) := by rw [hW]; (simp (maxDischargeDepth := 8) [go_sem, World.cell?_alloc_past, ltk2, ltk3, ltk4, ltk5, ltk6, ltk7, ltk8, ltk9, *])
  have kc3 : wa.cell? ⟨w.heap.size + 1, 3, none⟩ = some (.int .i64 j) := by rw [hW]; (simp (maxDischargeDepth := 8) [go_sem, World.cell?_alloc_past, ltk2, ltk3, ltk4, ltk5, ltk6, ltk7, ltk8, ltk9, *])
  have kc4 : wa.cell? ⟨w.heap.size + 1, 4, none⟩ = some (.int .i64 k) := by rw [hW]; (simp (maxDischargeDepth := 8) [go_sem, World.cell?_alloc_past, ltk2, ltk3, ltk4, ltk5, ltk6, ltk7, ltk8, ltk9, *])
  have kc5 : wa.cell? ⟨w.heap.size + 1, 5, none⟩ = some (.int .i64 l) := by rw [hW]; (simp (maxDischargeDepth := 8) [go_sem, World.cell?_alloc_past, ltk2, ltk3, ltk4, ltk5, ltk6, ltk7, ltk8, ltk9, *])
  have kd0 : wa.cell? ⟨w.heap.size + 1 + 1, 0, none⟩ = some (.int .i64 0) := by rw [hW]; (simp (maxDischargeDepth := 8) [go_sem, World.cell?_alloc_past, ltk2, ltk3, ltk4, ltk5, ltk6, ltk7, ltk8, ltk9, *])
  have kd1 : wa.cell? ⟨w.heap.size + 1 + 1, 1, none⟩ = some (.int .i64 0) := by rw [hW]; (simp (maxDischargeDepth := 8) [go_sem, World.cell?_alloc_past, ltk2, ltk3, ltk4, ltk5, ltk6, ltk7, ltk8, ltk9, *])
  have ke0 : wa.frozen? ⟨w.heap.size + 1 + 1, 0, none⟩ = false := by rw [hW]; (simp (maxDischargeDepth := 8) [go_sem, World.cell?_alloc_past, ltk2, ltk3, ltk4, ltk5, ltk6, ltk7, ltk8, ltk9, *])
  have ke1 : wa.frozen? ⟨w.heap.size + 1 + 1, 1, none⟩ = false := by rw [hW]; (simp (maxDischargeDepth := 8) [go_sem, World.cell?_alloc_past, ltk2, ltk3, ltk4, ltk5, ltk6, ltk7, ltk8, ltk9, *])
  have HBa : Below w.heap.size w wa := by rw [hW]; (repeat (first | with_reducible exact b0 _ | (with_reducible refine bext ?_ _ _) | (with_reducible refine below_drewN ?_ _) | (with_reducible refine Below.drew ?_) | (with_reducible refine bal ?_ _)))
  have za : wa.heap.size = w.heap.size + 1 + 1 + 1 := by rw [hW]; simp
  have za0 : w.heap.size < wa.heap.size := by omega
  have za1 : w.heap.size + 1 < wa.heap.size := by omega
  have za2 : w.heap.size + 1 + 1 < wa.heap.size := by omega
  clear hW za
  go_cut [6, 7] (fun s8 s9 wx => ∃ ga gb : Nat, s8 = .pointer (some ⟨ga, 0, none⟩) ∧ s9 = .pointer (some ⟨gb, 0, none⟩) ∧ (wx.cell? ⟨ga, 0, none⟩ = some (.int .i64 a) ∧ wx.cell? ⟨ga, 1, none⟩ = some (.int .i64 b) ∧ wx.cell? ⟨ga, 2, none⟩ = some (.int .i64 c) ∧ wx.cell? ⟨ga, 3, none⟩ = some (.int .i64 d) ∧ wx.cell? ⟨ga, 4, none⟩ = some (.int .i64 e) ∧ wx.cell? ⟨ga, 5, none⟩ = some (.int .i64 f) ∧ wx.cell? ⟨gb, 0, none⟩ = some (.int .i64 g) ∧ wx.cell? ⟨gb, 1, none⟩ = some (.int .i64 h) ∧ wx.cell? ⟨gb, 2, none⟩ = some (.int .i64 i) ∧ wx.cell? ⟨gb, 3, none⟩ = some (.int .i64 j) ∧ wx.cell? ⟨gb, 4, none⟩ = some (.int .i64 k) ∧ wx.cell? ⟨gb, 5, none⟩ = some (.int .i64 l)) ∧ (wa.heap.size ≤ ga ∧ wa.heap.size ≤ gb ∧ ga < wx.heap.size ∧ gb < wx.heap.size) ∧ Below wa.heap.size wa wx)
  case first =>
    clear BD
    go_region_law ((go_simp; first | (go_at_call 86; with_reducible refine (L1 _).mono ?_; rintro x w' ⟨rfl, hb⟩; obtain ⟨l9, d9, rfl⟩ := toExt hb; clear hb) | (go_at_call 86; with_reducible refine (L2 _).mono ?_; rintro x w' ⟨rfl, hb⟩; obtain ⟨l9, d9, rfl⟩ := toExt hb; clear hb)))
    all_goals go_wp2_with fail
    all_goals go_meet
    all_goals refine ⟨_, _, rfl, rfl, ⟨by (simp (maxDischargeDepth := 8) [go_sem, World.cell?_alloc_past, ltk2, ltk3, ltk4, ltk5, ltk6, ltk7, ltk8, ltk9, *]), by (simp (maxDischargeDepth := 8) [go_sem, World.cell?_alloc_past, ltk2, ltk3, ltk4, ltk5, ltk6, ltk7, ltk8, ltk9, *]), by (simp (maxDischargeDepth := 8) [go_sem, World.cell?_alloc_past, ltk2, ltk3, ltk4, ltk5, ltk6, ltk7, ltk8, ltk9, *]), by (simp (maxDischargeDepth := 8) [go_sem, World.cell?_alloc_past, ltk2, ltk3, ltk4, ltk5, ltk6, ltk7, ltk8, ltk9, *]), by (simp (maxDischargeDepth := 8) [go_sem, World.cell?_alloc_past, ltk2, ltk3, ltk4, ltk5, ltk6, ltk7, ltk8, ltk9, *]), by (simp (maxDischargeDepth := 8) [go_sem, World.cell?_alloc_past, ltk2, ltk3, ltk4, ltk5, ltk6, ltk7, ltk8, ltk9, *]), by (simp (maxDischargeDepth := 8) [go_sem, World.cell?_alloc_past, ltk2, ltk3, ltk4, ltk5, ltk6, ltk7, ltk8, ltk9, *]), by (simp (maxDischargeDepth := 8) [go_sem, World.cell?_alloc_past, ltk2, ltk3, ltk4, ltk5, ltk6, ltk7, ltk8, ltk9, *]), by (simp (maxDischargeDepth := 8) [go_sem, World.cell?_alloc_past, ltk2, ltk3, ltk4, ltk5, ltk6, ltk7, ltk8, ltk9, *]), by (simp (maxDischargeDepth := 8) [go_sem, World.cell?_alloc_past, ltk2, ltk3, ltk4, ltk5, ltk6, ltk7, ltk8, ltk9, *]), by (simp (maxDischargeDepth := 8) [go_sem, World.cell?_alloc_past, ltk2, ltk3, ltk4, ltk5, ltk6, ltk7, ltk8, ltk9, *]), by (simp (maxDischargeDepth := 8) [go_sem, World.cell?_alloc_past, ltk2, ltk3, ltk4, ltk5, ltk6, ltk7, ltk8, ltk9, *])⟩, ⟨?_, ?_, ?_, ?_⟩, by (repeat (first | with_reducible exact b0 _ | (with_reducible refine bext ?_ _ _) | (with_reducible refine below_drewN ?_ _) | (with_reducible refine Below.drew ?_) | (with_reducible refine bal ?_ _) | (with_reducible refine bset ?_ (by first | omega | (simp <;> omega)) _)))⟩
    all_goals (simp [ext_size, World.setCell, xs] <;> omega)
  case rest =>
    clear xC xF xS xN xD xX xZ hxa0 hxb0 hxc0 hxd0 hxe0 hxf0 hxg0 hxh0 hxi0 hxj0 hxa1 hxb1 hxc1 hxd1 hxe1 hxf1 hxg1 hxh1 hxi1 hxj1 hxa2 hxb2 hxc2 hxd2 hxe2 hxf2 hxg2 hxh2 hxi2 hxj2 hxk0 hxk1
    clear dz1 dz2 L1 L2
    obtain ⟨ga, gb, rfl, rfl, ⟨va0, va1, va2, va3, va4, va5, vb0, vb1, vb2, vb3, vb4, vb5⟩, ⟨s1, s2, s3, s4⟩, HBx⟩ := hcut
    have dAl := dAl; have dSt := dSt; have xC := ext_cell; have xF := ext_frozen; have xS := ext_set; have xN := ext_drewN; have xD := ext_drew; have xL := ext_lt; have xE := ext_ne; have xG := ext_nr; have xX := ext_ext; have xL1 := ext_lt1; have xL2 := ext_lt2; have xL3 := ext_lt3; have xM0 := ext_le0; have xM1 := ext_le1; have xM2 := ext_le2
    have s0 : w.heap.size < wc.heap.size := by omega
    have s5 : w.heap.size + 1 + 1 < wc.heap.size := by omega
    have HBc : Below w.heap.size w wc := HBa.trans (HBx.mono (by omega))
    have vr0 : wc.cell? ⟨w.heap.size + 1 + 1, 0, none⟩ = some (.int .i64 0) := (HBx.cell za2).trans kd0
    have vz0 : wc.frozen? ⟨w.heap.size + 1 + 1, 0, none⟩ = false := (HBx.frozen za2).trans ke0
    have vr1 : wc.cell? ⟨w.heap.size + 1 + 1, 1, none⟩ = some (.int .i64 0) := (HBx.cell za2).trans kd1
    have vz1 : wc.frozen? ⟨w.heap.size + 1 + 1, 1, none⟩ = false := (HBx.frozen za2).trans ke1
    clear HBx HBa kb0 kb1 kb2 kb3 kb4 kb5 kc0 kc1 kc2 kc3 kc4 kc5 kd0 kd1 ke0 ke1
    have CK : ∀ (W : World) (gg : Nat), gg < W.heap.size → (∀ o, o < 12 → W.cell? ⟨gg, o, none⟩ = some (.int .i64 (li [a, b, c, d, e, f, g, h, i, j, k, l] o))) →
        Calls Try.prog 87 #[.slice (some ⟨gg, 0, none⟩) 2 2] W fun x w' => x = .returned (.int .i64 (if okV a b c d e f = true ∧ okV g h i j k l = true then 0 else 8)) ∧ Below W.heap.size W w' := by
      intro W gg h1 h2
      have := vec_check (li [a, b, c, d, e, f, g, h, i, j, k, l]) gg 2 2 (by omega) (by
        intro n hn
        rcases (show n = 0 ∨ n = 1 by omega) with rfl | rfl
        · exact BD.out.1
        · exact BD.out.2) W h1 h2
      rw [rows2] at this
      exact this
    clear BD
    by_cases ho : okV a b c d e f = true ∧ okV g h i j k l = true
    · rw [if_pos ho] at CK
      have DD := E1.out ho
      clear ho E1 E2
      go_wp2_with fail
      with_reducible refine (CK _ _ (by simp) (all12 (by simp [li]) (by simp [li]) (by simp [li]) (by simp [li]) (by simp [li]) (by simp [li]) (by simp [li]) (by simp [li]) (by simp [li]) (by simp [li]) (by simp [li]) (by simp [li]))).mono ?_
      rintro e w1 ⟨rfl, hb⟩
      have HB1 : Below w.heap.size w w1 := by
        refine Below.trans ?_ (hb.mono ?_)
        · (repeat (first | with_reducible exact HBc | (with_reducible refine bal ?_ _) | (with_reducible refine below_drewN ?_ _) | (with_reducible refine Below.drew ?_) | (with_reducible refine bset ?_ (by first | omega | (simp <;> omega)) _)))
        · first | omega | (simp <;> omega)
      have zs1 : wc.heap.size + 1 < w1.heap.size + 1 := by have := hb.size; (try simp at this); omega
      replace va0 : w1.cell? ⟨ga, 0, none⟩ = some (.int .i64 a) := (hb.cell (by first | omega | (simp <;> omega))).trans (by (simp (maxDischargeDepth := 8) [go_sem, World.cell?_alloc_past, ltk2, ltk3, ltk4, ltk5, ltk6, ltk7, ltk8, ltk9, *]))
      replace va1 : w1.cell? ⟨ga, 1, none⟩ = some (.int .i64 b) := (hb.cell (by first | omega | (simp <;> omega))).trans (by (simp (maxDischargeDepth := 8) [go_sem, World.cell?_alloc_past, ltk2, ltk3, ltk4, ltk5, ltk6, ltk7, ltk8, ltk9, *]))
      replace va2 : w1.cell? ⟨ga, 2, none⟩ = some (.int .i64 c) := (hb.cell (by first | omega | (simp <;> omega))).trans (by (simp (maxDischargeDepth := 8) [go_sem, World.cell?_alloc_past, ltk2, ltk3, ltk4, ltk5, ltk6, ltk7, ltk8, ltk9, *]))
      replace va3 : w1.cell? ⟨ga, 3, none⟩ = some (.int .i64 d) := (hb.cell (by first | omega | (simp <;> omega))).trans (by (simp (maxDischargeDepth := 8) [go_sem, World.cell?_alloc_past, ltk2, ltk3, ltk4, ltk5, ltk6, ltk7, ltk8, ltk9, *]))
      replace va4 : w1.cell? ⟨ga, 4, none⟩ = some (.int .i64 e) := (hb.cell (by first | omega | (simp <;> omega))).trans (by (simp (maxDischargeDepth := 8) [go_sem, World.cell?_alloc_past, ltk2, ltk3, ltk4, ltk5, ltk6, ltk7, ltk8, ltk9, *]))
      replace va5 : w1.cell? ⟨ga, 5, none⟩ = some (.int .i64 f) := (hb.cell (by first | omega | (simp <;> omega))).trans (by (simp (maxDischargeDepth := 8) [go_sem, World.cell?_alloc_past, ltk2, ltk3, ltk4, ltk5, ltk6, ltk7, ltk8, ltk9, *]))
      replace vb0 : w1.cell? ⟨gb, 0, none⟩ = some (.int .i64 g) := (hb.cell (by first | omega | (simp <;> omega))).trans (by (simp (maxDischargeDepth := 8) [go_sem, World.cell?_alloc_past, ltk2, ltk3, ltk4, ltk5, ltk6, ltk7, ltk8, ltk9, *]))
      replace vb1 : w1.cell? ⟨gb, 1, none⟩ = some (.int .i64 h) := (hb.cell (by first | omega | (simp <;> omega))).trans (by (simp (maxDischargeDepth := 8) [go_sem, World.cell?_alloc_past, ltk2, ltk3, ltk4, ltk5, ltk6, ltk7, ltk8, ltk9, *]))
      replace vb2 : w1.cell? ⟨gb, 2, none⟩ = some (.int .i64 i) := (hb.cell (by first | omega | (simp <;> omega))).trans (by (simp (maxDischargeDepth := 8) [go_sem, World.cell?_alloc_past, ltk2, ltk3, ltk4, ltk5, ltk6, ltk7, ltk8, ltk9, *]))
      replace vb3 : w1.cell? ⟨gb, 3, none⟩ = some (.int .i64 j) := (hb.cell (by first | omega | (simp <;> omega))).trans (by (simp (maxDischargeDepth := 8) [go_sem, World.cell?_alloc_past, ltk2, ltk3, ltk4, ltk5, ltk6, ltk7, ltk8, ltk9, *]))
      replace vb4 : w1.cell? ⟨gb, 4, none⟩ = some (.int .i64 k) := (hb.cell (by first | omega | (simp <;> omega))).trans (by (simp (maxDischargeDepth := 8) [go_sem, World.cell?_alloc_past, ltk2, ltk3, ltk4, ltk5, ltk6, ltk7, ltk8, ltk9, *]))
      replace vb5 : w1.cell? ⟨gb, 5, none⟩ = some (.int .i64 l) := (hb.cell (by first | omega | (simp <;> omega))).trans (by (simp (maxDischargeDepth := 8) [go_sem, World.cell?_alloc_past, ltk2, ltk3, ltk4, ltk5, ltk6, ltk7, ltk8, ltk9, *]))
      replace vr0 : w1.cell? ⟨w.heap.size + 1 + 1, 0, none⟩ = some (.int .i64 0) := (hb.cell (by first | omega | (simp <;> omega))).trans (by (simp (maxDischargeDepth := 8) [go_sem, World.cell?_alloc_past, ltk2, ltk3, ltk4, ltk5, ltk6, ltk7, ltk8, ltk9, *]))
      replace vr1 : w1.cell? ⟨w.heap.size + 1 + 1, 1, none⟩ = some (.int .i64 0) := (hb.cell (by first | omega | (simp <;> omega))).trans (by (simp (maxDischargeDepth := 8) [go_sem, World.cell?_alloc_past, ltk2, ltk3, ltk4, ltk5, ltk6, ltk7, ltk8, ltk9, *]))
      replace vz0 : w1.frozen? ⟨w.heap.size + 1 + 1, 0, none⟩ = false := (hb.frozen (by first | omega | (simp <;> omega))).trans (by (simp (maxDischargeDepth := 8) [go_sem, World.cell?_alloc_past, ltk2, ltk3, ltk4, ltk5, ltk6, ltk7, ltk8, ltk9, *]))
      replace vz1 : w1.frozen? ⟨w.heap.size + 1 + 1, 1, none⟩ = false := (hb.frozen (by first | omega | (simp <;> omega))).trans (by (simp (maxDischargeDepth := 8) [go_sem, World.cell?_alloc_past, ltk2, ltk3, ltk4, ltk5, ltk6, ltk7, ltk8, ltk9, *]))
      clear hb HBc
      have zy0_1 : w.heap.size < w1.heap.size := by omega
      have zy1_1 : w.heap.size + 1 < w1.heap.size := by omega
      have zy2_1 : w.heap.size + 1 + 1 < w1.heap.size := by omega
      have zn_ga_1 : ga < w1.heap.size := by omega
      have zn_gb_1 : gb < w1.heap.size := by omega
      go_wp2_with fail
      with_reducible refine (DD _).mono ?_
      rintro e w2 ⟨rfl, hb⟩
      have HB2 : Below w.heap.size w w2 := by
        refine Below.trans ?_ (hb.mono ?_)
        · (repeat (first | with_reducible exact HB1 | (with_reducible refine bal ?_ _) | (with_reducible refine below_drewN ?_ _) | (with_reducible refine Below.drew ?_) | (with_reducible refine bset ?_ (by first | omega | (simp <;> omega)) _)))
        · first | omega | (simp <;> omega)
      have zs2 : w1.heap.size + 0 < w2.heap.size + 1 := by have := hb.size; (try simp at this); omega
      replace vr0 : w2.cell? ⟨w.heap.size + 1 + 1, 0, none⟩ = some (.int .i64 0) := (hb.cell (by first | omega | (simp <;> omega))).trans (by (simp (maxDischargeDepth := 8) [go_sem, World.cell?_alloc_past, ltk2, ltk3, ltk4, ltk5, ltk6, ltk7, ltk8, ltk9, *]))
      replace vr1 : w2.cell? ⟨w.heap.size + 1 + 1, 1, none⟩ = some (.int .i64 0) := (hb.cell (by first | omega | (simp <;> omega))).trans (by (simp (maxDischargeDepth := 8) [go_sem, World.cell?_alloc_past, ltk2, ltk3, ltk4, ltk5, ltk6, ltk7, ltk8, ltk9, *]))
      replace vz0 : w2.frozen? ⟨w.heap.size + 1 + 1, 0, none⟩ = false := (hb.frozen (by first | omega | (simp <;> omega))).trans (by (simp (maxDischargeDepth := 8) [go_sem, World.cell?_alloc_past, ltk2, ltk3, ltk4, ltk5, ltk6, ltk7, ltk8, ltk9, *]))
      replace vz1 : w2.frozen? ⟨w.heap.size + 1 + 1, 1, none⟩ = false := (hb.frozen (by first | omega | (simp <;> omega))).trans (by (simp (maxDischargeDepth := 8) [go_sem, World.cell?_alloc_past, ltk2, ltk3, ltk4, ltk5, ltk6, ltk7, ltk8, ltk9, *]))
      clear hb HB1
      have zy0_2 : w.heap.size < w2.heap.size := by omega
      have zy1_2 : w.heap.size + 1 < w2.heap.size := by omega
      have zy2_2 : w.heap.size + 1 + 1 < w2.heap.size := by omega
      go_wp2_with fail
      refine bodyPost_ret (by simp [results, Try.results34, go_sem, ext_cell, World.cell?_alloc_past, ltk2, ltk3, ltk4, ltk5, ltk6, ltk7, ltk8, ltk9, *]; try rfl) rfl ?_
      exact ⟨rfl, by (repeat (first | with_reducible exact HB2 | (with_reducible refine bext ?_ _ _) | (with_reducible refine below_drewN ?_ _) | (with_reducible refine Below.drew ?_) | (with_reducible refine bal ?_ _) | (with_reducible refine bset ?_ (by first | omega | (simp <;> omega)) _)))⟩
    · rw [if_neg ho] at CK
      obtain ⟨rfl, rfl, rfl⟩ := E2.out ho
      clear ho E1 E2
      go_wp2_with fail
      with_reducible refine (CK _ _ (by simp) (all12 (by simp [li]) (by simp [li]) (by simp [li]) (by simp [li]) (by simp [li]) (by simp [li]) (by simp [li]) (by simp [li]) (by simp [li]) (by simp [li]) (by simp [li]) (by simp [li]))).mono ?_
      rintro e w1 ⟨rfl, hb⟩
      have HB1 : Below w.heap.size w w1 := by
        refine Below.trans ?_ (hb.mono ?_)
        · (repeat (first | with_reducible exact HBc | (with_reducible refine bal ?_ _) | (with_reducible refine below_drewN ?_ _) | (with_reducible refine Below.drew ?_) | (with_reducible refine bset ?_ (by first | omega | (simp <;> omega)) _)))
        · first | omega | (simp <;> omega)
      have zs1 : wc.heap.size + 1 < w1.heap.size + 1 := by have := hb.size; (try simp at this); omega
      replace va0 : w1.cell? ⟨ga, 0, none⟩ = some (.int .i64 a) := (hb.cell (by first | omega | (simp <;> omega))).trans (by (simp (maxDischargeDepth := 8) [go_sem, World.cell?_alloc_past, ltk2, ltk3, ltk4, ltk5, ltk6, ltk7, ltk8, ltk9, *]))
      replace va1 : w1.cell? ⟨ga, 1, none⟩ = some (.int .i64 b) := (hb.cell (by first | omega | (simp <;> omega))).trans (by (simp (maxDischargeDepth := 8) [go_sem, World.cell?_alloc_past, ltk2, ltk3, ltk4, ltk5, ltk6, ltk7, ltk8, ltk9, *]))
      replace va2 : w1.cell? ⟨ga, 2, none⟩ = some (.int .i64 c) := (hb.cell (by first | omega | (simp <;> omega))).trans (by (simp (maxDischargeDepth := 8) [go_sem, World.cell?_alloc_past, ltk2, ltk3, ltk4, ltk5, ltk6, ltk7, ltk8, ltk9, *]))
      replace va3 : w1.cell? ⟨ga, 3, none⟩ = some (.int .i64 d) := (hb.cell (by first | omega | (simp <;> omega))).trans (by (simp (maxDischargeDepth := 8) [go_sem, World.cell?_alloc_past, ltk2, ltk3, ltk4, ltk5, ltk6, ltk7, ltk8, ltk9, *]))
      replace va4 : w1.cell? ⟨ga, 4, none⟩ = some (.int .i64 e) := (hb.cell (by first | omega | (simp <;> omega))).trans (by (simp (maxDischargeDepth := 8) [go_sem, World.cell?_alloc_past, ltk2, ltk3, ltk4, ltk5, ltk6, ltk7, ltk8, ltk9, *]))
      replace va5 : w1.cell? ⟨ga, 5, none⟩ = some (.int .i64 f) := (hb.cell (by first | omega | (simp <;> omega))).trans (by (simp (maxDischargeDepth := 8) [go_sem, World.cell?_alloc_past, ltk2, ltk3, ltk4, ltk5, ltk6, ltk7, ltk8, ltk9, *]))
      replace vb0 : w1.cell? ⟨gb, 0, none⟩ = some (.int .i64 g) := (hb.cell (by first | omega | (simp <;> omega))).trans (by (simp (maxDischargeDepth := 8) [go_sem, World.cell?_alloc_past, ltk2, ltk3, ltk4, ltk5, ltk6, ltk7, ltk8, ltk9, *]))
      replace vb1 : w1.cell? ⟨gb, 1, none⟩ = some (.int .i64 h) := (hb.cell (by first | omega | (simp <;> omega))).trans (by (simp (maxDischargeDepth := 8) [go_sem, World.cell?_alloc_past, ltk2, ltk3, ltk4, ltk5, ltk6, ltk7, ltk8, ltk9, *]))
      replace vb2 : w1.cell? ⟨gb, 2, none⟩ = some (.int .i64 i) := (hb.cell (by first | omega | (simp <;> omega))).trans (by (simp (maxDischargeDepth := 8) [go_sem, World.cell?_alloc_past, ltk2, ltk3, ltk4, ltk5, ltk6, ltk7, ltk8, ltk9, *]))
      replace vb3 : w1.cell? ⟨gb, 3, none⟩ = some (.int .i64 j) := (hb.cell (by first | omega | (simp <;> omega))).trans (by (simp (maxDischargeDepth := 8) [go_sem, World.cell?_alloc_past, ltk2, ltk3, ltk4, ltk5, ltk6, ltk7, ltk8, ltk9, *]))
      replace vb4 : w1.cell? ⟨gb, 4, none⟩ = some (.int .i64 k) := (hb.cell (by first | omega | (simp <;> omega))).trans (by (simp (maxDischargeDepth := 8) [go_sem, World.cell?_alloc_past, ltk2, ltk3, ltk4, ltk5, ltk6, ltk7, ltk8, ltk9, *]))
      replace vb5 : w1.cell? ⟨gb, 5, none⟩ = some (.int .i64 l) := (hb.cell (by first | omega | (simp <;> omega))).trans (by (simp (maxDischargeDepth := 8) [go_sem, World.cell?_alloc_past, ltk2, ltk3, ltk4, ltk5, ltk6, ltk7, ltk8, ltk9, *]))
      replace vr0 : w1.cell? ⟨w.heap.size + 1 + 1, 0, none⟩ = some (.int .i64 0) := (hb.cell (by first | omega | (simp <;> omega))).trans (by (simp (maxDischargeDepth := 8) [go_sem, World.cell?_alloc_past, ltk2, ltk3, ltk4, ltk5, ltk6, ltk7, ltk8, ltk9, *]))
      replace vr1 : w1.cell? ⟨w.heap.size + 1 + 1, 1, none⟩ = some (.int .i64 0) := (hb.cell (by first | omega | (simp <;> omega))).trans (by (simp (maxDischargeDepth := 8) [go_sem, World.cell?_alloc_past, ltk2, ltk3, ltk4, ltk5, ltk6, ltk7, ltk8, ltk9, *]))
      replace vz0 : w1.frozen? ⟨w.heap.size + 1 + 1, 0, none⟩ = false := (hb.frozen (by first | omega | (simp <;> omega))).trans (by (simp (maxDischargeDepth := 8) [go_sem, World.cell?_alloc_past, ltk2, ltk3, ltk4, ltk5, ltk6, ltk7, ltk8, ltk9, *]))
      replace vz1 : w1.frozen? ⟨w.heap.size + 1 + 1, 1, none⟩ = false := (hb.frozen (by first | omega | (simp <;> omega))).trans (by (simp (maxDischargeDepth := 8) [go_sem, World.cell?_alloc_past, ltk2, ltk3, ltk4, ltk5, ltk6, ltk7, ltk8, ltk9, *]))
      clear hb HBc
      have zy0_1 : w.heap.size < w1.heap.size := by omega
      have zy1_1 : w.heap.size + 1 < w1.heap.size := by omega
      have zy2_1 : w.heap.size + 1 + 1 < w1.heap.size := by omega
      have zn_ga_1 : ga < w1.heap.size := by omega
      have zn_gb_1 : gb < w1.heap.size := by omega
      go_wp2_with fail
      refine bodyPost_ret (by simp [results, Try.results34, go_sem, ext_cell, World.cell?_alloc_past, ltk2, ltk3, ltk4, ltk5, ltk6, ltk7, ltk8, ltk9, *]; try rfl) rfl ?_
      exact ⟨rfl, by (repeat (first | with_reducible exact HB1 | (with_reducible refine bext ?_ _ _) | (with_reducible refine below_drewN ?_ _) | (with_reducible refine Below.drew ?_) | (with_reducible refine bal ?_ _) | (with_reducible refine bset ?_ (by first | omega | (simp <;> omega)) _)))⟩
end Go.Proofs.Ytbckjccbihnlnaa
