/-
  Package vec: combine.
-/
import Derived.Test.YtmjbeplcabomdaaKu
import Derived.Test.YtmjbeplcabomdaaVf
import Derived.Test.YtmjbeplcabomdaaQh
import Derived.Test.YtmjbeplcabomdaaFz
import Derived.Deep.RegionLaw
import Derived.Deep.DeepCutAuto
namespace Go.Proofs.Ytmjbeplcabomdaa
open Go.RowKit
set_option linter.unusedVariables false
set_option linter.unusedSimpArgs false

set_option maxRecDepth 100000 in
set_option maxHeartbeats 6400000 in
theorem combine_ok (fo : Nat) (a b c d e f g h i j k l x1 x2 x3 y1 y2 y3 z1 z2 z3 : Int)
    (A0 : ∀ (gd ga gb : Nat) (w : World), gd < w.heap.size → ga < w.heap.size → gb < w.heap.size → w.cell? ⟨gd, 0, none⟩ = some (.func (.func fo) #[] #[]) → w.cell? ⟨ga, 0, none⟩ = some (.int .i64 a) → w.cell? ⟨ga, 1, none⟩ = some (.int .i64 b) → w.cell? ⟨gb, 0, none⟩ = some (.int .i64 g) → w.cell? ⟨gb, 1, none⟩ = some (.int .i64 h) → Calls Try.prog 63 #[.int .i64 0, .pointer (some ⟨gd, 0, none⟩), .pointer (some ⟨ga, 0, none⟩), .pointer (some ⟨gb, 0, none⟩)] w fun e w' => e = .returned (.tuple #[.agg #[.int .i64 x1, .int .i64 x2], .int .i64 x3]) ∧ Below w.heap.size w w')
    (A1 : ∀ (gd ga gb : Nat) (w : World), gd < w.heap.size → ga < w.heap.size → gb < w.heap.size → w.cell? ⟨gd, 0, none⟩ = some (.func (.func fo) #[] #[]) → w.cell? ⟨ga, 2, none⟩ = some (.int .i64 c) → w.cell? ⟨ga, 3, none⟩ = some (.int .i64 d) → w.cell? ⟨gb, 2, none⟩ = some (.int .i64 i) → w.cell? ⟨gb, 3, none⟩ = some (.int .i64 j) → Calls Try.prog 63 #[.int .i64 1, .pointer (some ⟨gd, 0, none⟩), .pointer (some ⟨ga, 0, none⟩), .pointer (some ⟨gb, 0, none⟩)] w fun e w' => e = .returned (.tuple #[.agg #[.int .i64 y1, .int .i64 y2], .int .i64 y3]) ∧ Below w.heap.size w w')
    (A2 : ∀ (gd ga gb : Nat) (w : World), gd < w.heap.size → ga < w.heap.size → gb < w.heap.size → w.cell? ⟨gd, 0, none⟩ = some (.func (.func fo) #[] #[]) → w.cell? ⟨ga, 4, none⟩ = some (.int .i64 e) → w.cell? ⟨ga, 5, none⟩ = some (.int .i64 f) → w.cell? ⟨gb, 4, none⟩ = some (.int .i64 k) → w.cell? ⟨gb, 5, none⟩ = some (.int .i64 l) → Calls Try.prog 63 #[.int .i64 2, .pointer (some ⟨gd, 0, none⟩), .pointer (some ⟨ga, 0, none⟩), .pointer (some ⟨gb, 0, none⟩)] w fun e w' => e = .returned (.tuple #[.agg #[.int .i64 z1, .int .i64 z2], .int .i64 z3]) ∧ Below w.heap.size w w')
    (p1 : okC a b) (p2 : okC c d) (p3 : okC e f) (q1 : okC g h) (q2 : okC i j) (q3 : okC k l) (w : World) :
    Calls Try.prog 42 #[.func (.func fo) #[] #[], .agg #[.int .i64 a, .int .i64 b, .int .i64 c, .int .i64 d, .int .i64 e, .int .i64 f], .agg #[.int .i64 g, .int .i64 h, .int .i64 i, .int .i64 j, .int .i64 k, .int .i64 l]] w fun rr w' => rr = .returned (.tuple #[.agg #[.int .i64 (vz (if okV a b c d e f = true ∧ okV g h i j k l = true then fsI x3 y3 z3 else 8) x1), .int .i64 (vz (if okV a b c d e f = true ∧ okV g h i j k l = true then fsI x3 y3 z3 else 8) x2), .int .i64 (vz (if okV a b c d e f = true ∧ okV g h i j k l = true then fsI x3 y3 z3 else 8) y1), .int .i64 (vz (if okV a b c d e f = true ∧ okV g h i j k l = true then fsI x3 y3 z3 else 8) y2), .int .i64 (vz (if okV a b c d e f = true ∧ okV g h i j k l = true then fsI x3 y3 z3 else 8) z1), .int .i64 (vz (if okV a b c d e f = true ∧ okV g h i j k l = true then fsI x3 y3 z3 else 8) z2)], .int .i64 (if okV a b c d e f = true ∧ okV g h i j k l = true then fsI x3 y3 z3 else 8)]) ∧ Below w.heap.size w w' := by
  generalize hE0 : (if okV a b c d e f = true ∧ okV g h i j k l = true then fsI x3 y3 z3 else 8) = E
  generalize hx10 : vz E x1 = Xx1
  generalize hx20 : vz E x2 = Xx2
  generalize hy10 : vz E y1 = Xy1
  generalize hy20 : vz E y2 = Xy2
  generalize hz10 : vz E z1 = Xz1
  generalize hz20 : vz E z2 = Xz2
  have hE := Lib.hid hE0
  have hx1 := Lib.hid hx10
  have hx2 := Lib.hid hx20
  have hy1 := Lib.hid hy10
  have hy2 := Lib.hid hy20
  have hz1 := Lib.hid hz10
  have hz2 := Lib.hid hz20
  clear hE0 hx10 hx20 hy10 hy20 hz10 hz20
  have BD := Lib.hid (And.intro (And.intro p1 (And.intro p2 p3)) (And.intro q1 (And.intro q2 q3)))
  clear p1 p2 p3 q1 q2 q3
  have L1 := fun w => vec_list a b c d e f w
  have L2 := fun w => vec_list g h i j k l w
  have H0 := Lib.hid A0
  have H1 := Lib.hid A1
  have H2 := Lib.hid A2
  clear A0 A1 A2
  have dAl := dAl; have dSt := dSt; have xC := ext_cell; have xF := ext_frozen; have xS := ext_set; have xN := ext_drewN; have xD := ext_drew; have xX := ext_ext; have xZ := xs_size
  have hxa0 := xa0; have hxb0 := xb0; have hxc0 := xc0; have hxd0 := xd0; have hxe0 := xe0; have hxf0 := xf0; have hxg0 := xg0; have hxh0 := xh0; have hxi0 := xi0; have hxj0 := xj0; have hxa1 := xa1; have hxb1 := xb1; have hxc1 := xc1; have hxd1 := xd1; have hxe1 := xe1; have hxf1 := xf1; have hxg1 := xg1; have hxh1 := xh1; have hxi1 := xi1; have hxj1 := xj1; have hxa2 := xa2; have hxb2 := xb2; have hxc2 := xc2; have hxd2 := xd2; have hxe2 := xe2; have hxf2 := xf2; have hxg2 := xg2; have hxh2 := xh2; have hxi2 := xi2; have hxj2 := xj2; have hxk0 := xk0; have hxk1 := xk1
  go_enter Try.func42, Try.ntmps42
  have dz1 := dzA
  have dz2 := dzB
  go_wp2_with fail
  obtain ⟨wa, hW⟩ : ∃ wa, wa = ((((w.alloc (.cells #[.func (.func fo) #[] #[]] 81)).alloc (.cells #[.int .i64 a, .int .i64 b, .int .i64 c, .int .i64 d, .int .i64 e, .int .i64 f] 40)).alloc (.cells #[.int .i64 g, .int .i64 h, .int .i64 i, .int .i64 j, .int .i64 k, .int .i64 l] 40)).alloc (.cells #[.int .i64 0, .int .i64 0, .int .i64 0, .int .i64 0, .int .i64 0, .int .i64 0] 40)) := ⟨_, rfl⟩
  rw [← hW]
  have ka0 : wa.cell? ⟨w.heap.size, 0, none⟩ = some (.func (.func fo) #[] #[]) := by rw [hW]; (simp (maxDischargeDepth := 8) [go_sem, kp, *])
  have kb0 : wa.cell? ⟨w.heap.size + 1, 0, none⟩ = some (.int .i64 a) := by rw [hW]; (simp (maxDischargeDepth := 8) [go_sem, kp, *])
  have kb1 : wa.cell? ⟨w.heap.size + 1, 1, none⟩ = some (.int .i64 b) := by rw [hW]; (simp (maxDischargeDepth := 8) [go_sem, kp, *])
  have kb2 : wa.cell? ⟨w.heap.size + 1, 2, none⟩ = some (.int .i64 c) := by rw [hW]; (simp (maxDischargeDepth := 8) [go_sem, kp, *])
  have kb3 : wa.cell? ⟨w.heap.size + 1, 3, none⟩ = some (.int .i64 d) := by rw [hW]; (simp (maxDischargeDepth := 8) [go_sem, kp, *])
  have kb4 : wa.cell? ⟨w.heap.size + 1, 4, none⟩ = some (.int .i64 e) := by rw [hW]; (simp (maxDischargeDepth := 8) [go_sem, kp, *])
  have kb5 : wa.cell? ⟨w.heap.size + 1, 5, none⟩ = some (.int .i64 f) := by rw [hW]; (simp (maxDischargeDepth := 8) [go_sem, kp, *])
  have kc0 : wa.cell? ⟨w.heap.size + 1 + 1, 0, none⟩ = some (.int .i64 g) := by rw [hW]; (simp (maxDischargeDepth := 8) [go_sem, kp, *])
  have kc1 : wa.cell? ⟨w.heap.size + 1 + 1, 1, none⟩ = some (.int .i64 h) := by rw [hW]; (simp (maxDischargeDepth := 8) [go_sem, kp, *])
  have kc2 : wa.cell? ⟨w.heap.size + 1 + 1, 2, none⟩ = some (.int .i64 i) := by rw [hW]; (simp (maxDischargeDepth := 8) [go_sem, kp, *])
  have kc3 : wa.cell? ⟨w.heap.size + 1 + 1, 3, none⟩ = some (.int .i64 j) := by rw [hW]; (simp (maxDischargeDepth := 8) [go_sem, kp, *])
  have kc4 : wa.cell? ⟨w.heap.size + 1 + 1, 4, none⟩ = some (.int .i64 k) := by rw [hW]; (simp (maxDischargeDepth := 8) [go_sem, kp, *])
  have kc5 : wa.cell? ⟨w.heap.size + 1 + 1, 5, none⟩ = some (.int .i64 l) := by rw [hW]; (simp (maxDischargeDepth := 8) [go_sem, kp, *])
  have kd0 : wa.cell? ⟨w.heap.size + 1 + 1 + 1, 0, none⟩ = some (.int .i64 0) := by rw [hW]; (simp (maxDischargeDepth := 8) [go_sem, kp, *])
  have kd1 : wa.cell? ⟨w.heap.size + 1 + 1 + 1, 1, none⟩ = some (.int .i64 0) := by rw [hW]; (simp (maxDischargeDepth := 8) [go_sem, kp, *])
  have kd2 : wa.cell? ⟨w.heap.size + 1 + 1 + 1, 2, none⟩ = some (.int .i64 0) := by rw [hW]; (simp (maxDischargeDepth := 8) [go_sem, kp, *])
  have kd3 : wa.cell? ⟨w.heap.size + 1 + 1 + 1, 3, none⟩ = some (.int .i64 0) := by rw [hW]; (simp (maxDischargeDepth := 8) [go_sem, kp, *])
  have kd4 : wa.cell? ⟨w.heap.size + 1 + 1 + 1, 4, none⟩ = some (.int .i64 0) := by rw [hW]; (simp (maxDischargeDepth := 8) [go_sem, kp, *])
  have kd5 : wa.cell? ⟨w.heap.size + 1 + 1 + 1, 5, none⟩ = some (.int .i64 0) := by rw [hW]; (simp (maxDischargeDepth := 8) [go_sem, kp, *])
  have ke0 : wa.frozen? ⟨w.heap.size + 1 + 1 + 1, 0, none⟩ = false := by rw [hW]; (simp (maxDischargeDepth := 8) [go_sem, kp, *])
  have ke1 : wa.frozen? ⟨w.heap.size + 1 + 1 + 1, 1, none⟩ = false := by rw [hW]; (simp (maxDischargeDepth := 8) [go_sem, kp, *])
  have ke2 : wa.frozen? ⟨w.heap.size + 1 + 1 + 1, 2, none⟩ = false := by rw [hW]; (simp (maxDischargeDepth := 8) [go_sem, kp, *])
  have ke3 : wa.frozen? ⟨w.heap.size + 1 + 1 + 1, 3, none⟩ = false := by rw [hW]; (simp (maxDischargeDepth := 8) [go_sem, kp, *])
  have ke4 : wa.frozen? ⟨w.heap.size + 1 + 1 + 1, 4, none⟩ = false := by rw [hW]; (simp (maxDischargeDepth := 8) [go_sem, kp, *])
  have ke5 : wa.frozen? ⟨w.heap.size + 1 + 1 + 1, 5, none⟩ = false := by rw [hW]; (simp (maxDischargeDepth := 8) [go_sem, kp, *])
  have HBa : Below w.heap.size w wa := by rw [hW]; (with_reducible repeat (first | exact b0 _ | refine bext ?_ _ _ | refine bdn ?_ _ | refine bdr ?_ | refine bal ?_ _))
  have za : wa.heap.size = w.heap.size + 1 + 1 + 1 + 1 := by rw [hW]; simp
  have za0 : w.heap.size < wa.heap.size := by omega
  have za1 : w.heap.size + 1 < wa.heap.size := by omega
  have za2 : w.heap.size + 1 + 1 < wa.heap.size := by omega
  have za3 : w.heap.size + 1 + 1 + 1 < wa.heap.size := by omega
  clear hW za
  go_cut [8, 9] (fun s8 s9 wx => ∃ ga gb : Nat, s8 = .pointer (some ⟨ga, 0, none⟩) ∧ s9 = .pointer (some ⟨gb, 0, none⟩) ∧ (wx.cell? ⟨ga, 0, none⟩ = some (.int .i64 a) ∧ wx.cell? ⟨ga, 1, none⟩ = some (.int .i64 b) ∧ wx.cell? ⟨ga, 2, none⟩ = some (.int .i64 c) ∧ wx.cell? ⟨ga, 3, none⟩ = some (.int .i64 d) ∧ wx.cell? ⟨ga, 4, none⟩ = some (.int .i64 e) ∧ wx.cell? ⟨ga, 5, none⟩ = some (.int .i64 f) ∧ wx.cell? ⟨gb, 0, none⟩ = some (.int .i64 g) ∧ wx.cell? ⟨gb, 1, none⟩ = some (.int .i64 h) ∧ wx.cell? ⟨gb, 2, none⟩ = some (.int .i64 i) ∧ wx.cell? ⟨gb, 3, none⟩ = some (.int .i64 j) ∧ wx.cell? ⟨gb, 4, none⟩ = some (.int .i64 k) ∧ wx.cell? ⟨gb, 5, none⟩ = some (.int .i64 l)) ∧ (wa.heap.size ≤ ga ∧ wa.heap.size ≤ gb ∧ ga < wx.heap.size ∧ gb < wx.heap.size) ∧ Below wa.heap.size wa wx)
  case first =>
    clear H0 H1 H2
    go_region_law ((go_simp; first | (go_at_call 49; with_reducible refine (L1 _).mono ?_; rintro x w' ⟨rfl, hb⟩; obtain ⟨l9, d9, rfl⟩ := toExt hb; clear hb) | (go_at_call 49; with_reducible refine (L2 _).mono ?_; rintro x w' ⟨rfl, hb⟩; obtain ⟨l9, d9, rfl⟩ := toExt hb; clear hb)))
    all_goals go_wp2_with fail
    all_goals go_meet
    all_goals refine ⟨_, _, rfl, rfl, ⟨kk, kk, kk, kk, kk, kk, kk, kk, kk, kk, kk, kk⟩, ⟨?_, ?_, ?_, ?_⟩, kb⟩
    all_goals (simp [ext_size, World.setCell, xs] <;> omega)
  case rest =>
    clear xC xF xS xN xD xX xZ hxa0 hxb0 hxc0 hxd0 hxe0 hxf0 hxg0 hxh0 hxi0 hxj0 hxa1 hxb1 hxc1 hxd1 hxe1 hxf1 hxg1 hxh1 hxi1 hxj1 hxa2 hxb2 hxc2 hxd2 hxe2 hxf2 hxg2 hxh2 hxi2 hxj2 hxk0 hxk1
    clear dz1 dz2 L1 L2
    obtain ⟨ga, gb, rfl, rfl, ⟨va0, va1, va2, va3, va4, va5, vb0, vb1, vb2, vb3, vb4, vb5⟩, ⟨s1, s2, s3, s4⟩, HBx⟩ := hcut
    have dAl := dAl; have dSt := dSt; have xC := ext_cell; have xF := ext_frozen; have xS := ext_set; have xN := ext_drewN; have xD := ext_drew; have xL := ext_lt; have xE := ext_ne; have xG := ext_nr; have xX := ext_ext; have xL1 := ext_lt1; have xL2 := ext_lt2; have xL3 := ext_lt3; have xM0 := ext_le0; have xM1 := ext_le1; have xM2 := ext_le2
    have s0 : w.heap.size < wc.heap.size := by omega
    have s5 : w.heap.size + 1 + 1 + 1 < wc.heap.size := by omega
    have HBc : Below w.heap.size w wc := HBa.trans (HBx.mono (by omega))
    have vf : wc.cell? ⟨w.heap.size, 0, none⟩ = some (.func (.func fo) #[] #[]) := (HBx.cell za0).trans ka0
    have vr0 : wc.cell? ⟨w.heap.size + 1 + 1 + 1, 0, none⟩ = some (.int .i64 0) := (HBx.cell za3).trans kd0
    have vz0 : wc.frozen? ⟨w.heap.size + 1 + 1 + 1, 0, none⟩ = false := (HBx.frozen za3).trans ke0
    have vr1 : wc.cell? ⟨w.heap.size + 1 + 1 + 1, 1, none⟩ = some (.int .i64 0) := (HBx.cell za3).trans kd1
    have vz1 : wc.frozen? ⟨w.heap.size + 1 + 1 + 1, 1, none⟩ = false := (HBx.frozen za3).trans ke1
    have vr2 : wc.cell? ⟨w.heap.size + 1 + 1 + 1, 2, none⟩ = some (.int .i64 0) := (HBx.cell za3).trans kd2
    have vz2 : wc.frozen? ⟨w.heap.size + 1 + 1 + 1, 2, none⟩ = false := (HBx.frozen za3).trans ke2
    have vr3 : wc.cell? ⟨w.heap.size + 1 + 1 + 1, 3, none⟩ = some (.int .i64 0) := (HBx.cell za3).trans kd3
    have vz3 : wc.frozen? ⟨w.heap.size + 1 + 1 + 1, 3, none⟩ = false := (HBx.frozen za3).trans ke3
    have vr4 : wc.cell? ⟨w.heap.size + 1 + 1 + 1, 4, none⟩ = some (.int .i64 0) := (HBx.cell za3).trans kd4
    have vz4 : wc.frozen? ⟨w.heap.size + 1 + 1 + 1, 4, none⟩ = false := (HBx.frozen za3).trans ke4
    have vr5 : wc.cell? ⟨w.heap.size + 1 + 1 + 1, 5, none⟩ = some (.int .i64 0) := (HBx.cell za3).trans kd5
    have vz5 : wc.frozen? ⟨w.heap.size + 1 + 1 + 1, 5, none⟩ = false := (HBx.frozen za3).trans ke5
    clear HBx HBa ka0 kb0 kb1 kb2 kb3 kb4 kb5 kc0 kc1 kc2 kc3 kc4 kc5 kd0 kd1 kd2 kd3 kd4 kd5 ke0 ke1 ke2 ke3 ke4 ke5
    have CK : ∀ (W : World) (gg : Nat), gg < W.heap.size → (∀ o, o < 12 → W.cell? ⟨gg, o, none⟩ = some (.int .i64 (li [a, b, c, d, e, f, g, h, i, j, k, l] o))) →
        Calls Try.prog 48 #[.slice (some ⟨gg, 0, none⟩) 2 2] W fun x w' => x = .returned (.int .i64 (if okV a b c d e f = true ∧ okV g h i j k l = true then 0 else 8)) ∧ Below W.heap.size W w' := by
      intro W gg h1 h2
      have := vec_check (li [a, b, c, d, e, f, g, h, i, j, k, l]) gg 2 2 (by omega) (by
        intro n hn
        rcases (show n = 0 ∨ n = 1 by omega) with rfl | rfl
        · exact BD.out.1
        · exact BD.out.2) W h1 h2
      rw [rows2] at this
      exact this
    clear BD
    by_cases ho : okV a b c d e f = true ∧ okV g h i j k l = true
    · rw [if_pos ho] at CK
      have hE2 : Hid (fsI x3 y3 z3 = E) := Lib.hid (by rw [← hE.out, if_pos ho])
      clear ho hE
      go_wp2_with fail
      with_reducible refine (CK _ _ (by simp) (all12 (by simp [li]) (by simp [li]) (by simp [li]) (by simp [li]) (by simp [li]) (by simp [li]) (by simp [li]) (by simp [li]) (by simp [li]) (by simp [li]) (by simp [li]) (by simp [li]))).mono ?_
      rintro e w1 ⟨rfl, hb⟩
      have HB1 : Below w.heap.size w w1 := by
        refine Below.trans ?_ (hb.mono ?_)
        · exact kb
        · first | omega | (simp <;> omega)
      have zs1 : wc.heap.size + 1 < w1.heap.size + 1 := by have := hb.size; (try simp at this); omega
      replace va0 : w1.cell? ⟨ga, 0, none⟩ = some (.int .i64 a) := bce hb
      replace va1 : w1.cell? ⟨ga, 1, none⟩ = some (.int .i64 b) := bce hb
      replace va2 : w1.cell? ⟨ga, 2, none⟩ = some (.int .i64 c) := bce hb
      replace va3 : w1.cell? ⟨ga, 3, none⟩ = some (.int .i64 d) := bce hb
      replace va4 : w1.cell? ⟨ga, 4, none⟩ = some (.int .i64 e) := bce hb
      replace va5 : w1.cell? ⟨ga, 5, none⟩ = some (.int .i64 f) := bce hb
      replace vb0 : w1.cell? ⟨gb, 0, none⟩ = some (.int .i64 g) := bce hb
      replace vb1 : w1.cell? ⟨gb, 1, none⟩ = some (.int .i64 h) := bce hb
      replace vb2 : w1.cell? ⟨gb, 2, none⟩ = some (.int .i64 i) := bce hb
      replace vb3 : w1.cell? ⟨gb, 3, none⟩ = some (.int .i64 j) := bce hb
      replace vb4 : w1.cell? ⟨gb, 4, none⟩ = some (.int .i64 k) := bce hb
      replace vb5 : w1.cell? ⟨gb, 5, none⟩ = some (.int .i64 l) := bce hb
      replace vf : w1.cell? ⟨w.heap.size, 0, none⟩ = some (.func (.func fo) #[] #[]) := bce hb
      replace vr0 : w1.cell? ⟨w.heap.size + 1 + 1 + 1, 0, none⟩ = some (.int .i64 0) := bce hb
      replace vr1 : w1.cell? ⟨w.heap.size + 1 + 1 + 1, 1, none⟩ = some (.int .i64 0) := bce hb
      replace vr2 : w1.cell? ⟨w.heap.size + 1 + 1 + 1, 2, none⟩ = some (.int .i64 0) := bce hb
      replace vr3 : w1.cell? ⟨w.heap.size + 1 + 1 + 1, 3, none⟩ = some (.int .i64 0) := bce hb
      replace vr4 : w1.cell? ⟨w.heap.size + 1 + 1 + 1, 4, none⟩ = some (.int .i64 0) := bce hb
      replace vr5 : w1.cell? ⟨w.heap.size + 1 + 1 + 1, 5, none⟩ = some (.int .i64 0) := bce hb
      replace vz0 : w1.frozen? ⟨w.heap.size + 1 + 1 + 1, 0, none⟩ = false := bfz hb
      replace vz1 : w1.frozen? ⟨w.heap.size + 1 + 1 + 1, 1, none⟩ = false := bfz hb
      replace vz2 : w1.frozen? ⟨w.heap.size + 1 + 1 + 1, 2, none⟩ = false := bfz hb
      replace vz3 : w1.frozen? ⟨w.heap.size + 1 + 1 + 1, 3, none⟩ = false := bfz hb
      replace vz4 : w1.frozen? ⟨w.heap.size + 1 + 1 + 1, 4, none⟩ = false := bfz hb
      replace vz5 : w1.frozen? ⟨w.heap.size + 1 + 1 + 1, 5, none⟩ = false := bfz hb
      clear hb HBc
      have zy0_1 : w.heap.size < w1.heap.size := by omega
      have zy1_1 : w.heap.size + 1 < w1.heap.size := by omega
      have zy2_1 : w.heap.size + 1 + 1 < w1.heap.size := by omega
      have zy3_1 : w.heap.size + 1 + 1 + 1 < w1.heap.size := by omega
      have zn_ga_1 : ga < w1.heap.size := by omega
      have zn_gb_1 : gb < w1.heap.size := by omega
      have G0 : ∀ W, Below w1.heap.size w1 W → Calls Try.prog 63 #[.int .i64 0, .pointer (some ⟨w.heap.size, 0, none⟩), .pointer (some ⟨ga, 0, none⟩), .pointer (some ⟨gb, 0, none⟩)] W fun e w' => e = .returned (.tuple #[.agg #[.int .i64 x1, .int .i64 x2], .int .i64 x3]) ∧ Below W.heap.size W w' := fun W hW =>
        H0.out _ ga gb W (Nat.lt_of_lt_of_le zy0_1 hW.size) (Nat.lt_of_lt_of_le zn_ga_1 hW.size) (Nat.lt_of_lt_of_le zn_gb_1 hW.size) ((hW.cell zy0_1).trans vf) ((hW.cell zn_ga_1).trans va0) ((hW.cell zn_ga_1).trans va1) ((hW.cell zn_gb_1).trans vb0) ((hW.cell zn_gb_1).trans vb1)
      have G1 : ∀ W, Below w1.heap.size w1 W → Calls Try.prog 63 #[.int .i64 1, .pointer (some ⟨w.heap.size, 0, none⟩), .pointer (some ⟨ga, 0, none⟩), .pointer (some ⟨gb, 0, none⟩)] W fun e w' => e = .returned (.tuple #[.agg #[.int .i64 y1, .int .i64 y2], .int .i64 y3]) ∧ Below W.heap.size W w' := fun W hW =>
        H1.out _ ga gb W (Nat.lt_of_lt_of_le zy0_1 hW.size) (Nat.lt_of_lt_of_le zn_ga_1 hW.size) (Nat.lt_of_lt_of_le zn_gb_1 hW.size) ((hW.cell zy0_1).trans vf) ((hW.cell zn_ga_1).trans va2) ((hW.cell zn_ga_1).trans va3) ((hW.cell zn_gb_1).trans vb2) ((hW.cell zn_gb_1).trans vb3)
      have G2 : ∀ W, Below w1.heap.size w1 W → Calls Try.prog 63 #[.int .i64 2, .pointer (some ⟨w.heap.size, 0, none⟩), .pointer (some ⟨ga, 0, none⟩), .pointer (some ⟨gb, 0, none⟩)] W fun e w' => e = .returned (.tuple #[.agg #[.int .i64 z1, .int .i64 z2], .int .i64 z3]) ∧ Below W.heap.size W w' := fun W hW =>
        H2.out _ ga gb W (Nat.lt_of_lt_of_le zy0_1 hW.size) (Nat.lt_of_lt_of_le zn_ga_1 hW.size) (Nat.lt_of_lt_of_le zn_gb_1 hW.size) ((hW.cell zy0_1).trans vf) ((hW.cell zn_ga_1).trans va4) ((hW.cell zn_ga_1).trans va5) ((hW.cell zn_gb_1).trans vb4) ((hW.cell zn_gb_1).trans vb5)
      have FL := fun W h1 h2 => fill_comb w1.heap.size w1 (.pointer (some ⟨w.heap.size, 0, none⟩)) (.pointer (some ⟨ga, 0, none⟩)) (.pointer (some ⟨gb, 0, none⟩)) x1 x2 x3 y1 y2 y3 z1 z2 z3 G0 G1 G2 W h1 h2
      clear G0 G1 G2 H0 H1 H2 va0 va1 va2 va3 va4 va5 vb0 vb1 vb2 vb3 vb4 vb5 vf
      simp only [hE2.out, hx1.out, hx2.out, hy1.out, hy2.out, hz1.out, hz2.out] at FL
      have VV := fun w => vec_vector Xx1 Xx2 Xy1 Xy2 Xz1 Xz2 E w
      go_wp2_with fail
      with_reducible refine (FL _ (kb) (by simp)).mono ?_
      rintro e w2 ⟨rfl, hb⟩
      have HB2 : Below w.heap.size w w2 := by
        refine Below.trans ?_ (hb.mono ?_)
        · exact kb
        · first | omega | (simp <;> omega)
      have zs2 : w1.heap.size + 0 < w2.heap.size + 1 := by have := hb.size; (try simp at this); omega
      replace vr0 : w2.cell? ⟨w.heap.size + 1 + 1 + 1, 0, none⟩ = some (.int .i64 0) := bce hb
      replace vr1 : w2.cell? ⟨w.heap.size + 1 + 1 + 1, 1, none⟩ = some (.int .i64 0) := bce hb
      replace vr2 : w2.cell? ⟨w.heap.size + 1 + 1 + 1, 2, none⟩ = some (.int .i64 0) := bce hb
      replace vr3 : w2.cell? ⟨w.heap.size + 1 + 1 + 1, 3, none⟩ = some (.int .i64 0) := bce hb
      replace vr4 : w2.cell? ⟨w.heap.size + 1 + 1 + 1, 4, none⟩ = some (.int .i64 0) := bce hb
      replace vr5 : w2.cell? ⟨w.heap.size + 1 + 1 + 1, 5, none⟩ = some (.int .i64 0) := bce hb
      replace vz0 : w2.frozen? ⟨w.heap.size + 1 + 1 + 1, 0, none⟩ = false := bfz hb
      replace vz1 : w2.frozen? ⟨w.heap.size + 1 + 1 + 1, 1, none⟩ = false := bfz hb
      replace vz2 : w2.frozen? ⟨w.heap.size + 1 + 1 + 1, 2, none⟩ = false := bfz hb
      replace vz3 : w2.frozen? ⟨w.heap.size + 1 + 1 + 1, 3, none⟩ = false := bfz hb
      replace vz4 : w2.frozen? ⟨w.heap.size + 1 + 1 + 1, 4, none⟩ = false := bfz hb
      replace vz5 : w2.frozen? ⟨w.heap.size + 1 + 1 + 1, 5, none⟩ = false := bfz hb
      clear hb HB1
      have zy0_2 : w.heap.size < w2.heap.size := by omega
      have zy1_2 : w.heap.size + 1 < w2.heap.size := by omega
      have zy2_2 : w.heap.size + 1 + 1 < w2.heap.size := by omega
      have zy3_2 : w.heap.size + 1 + 1 + 1 < w2.heap.size := by omega
      go_wp2_with fail
      with_reducible refine (VV _).mono ?_
      rintro e w3 ⟨rfl, hb⟩
      have HB3 : Below w.heap.size w w3 := by
        refine Below.trans ?_ (hb.mono ?_)
        · exact kb
        · first | omega | (simp <;> omega)
      have zs3 : w2.heap.size + 0 < w3.heap.size + 1 := by have := hb.size; (try simp at this); omega
      replace vr0 : w3.cell? ⟨w.heap.size + 1 + 1 + 1, 0, none⟩ = some (.int .i64 0) := bce hb
      replace vr1 : w3.cell? ⟨w.heap.size + 1 + 1 + 1, 1, none⟩ = some (.int .i64 0) := bce hb
      replace vr2 : w3.cell? ⟨w.heap.size + 1 + 1 + 1, 2, none⟩ = some (.int .i64 0) := bce hb
      replace vr3 : w3.cell? ⟨w.heap.size + 1 + 1 + 1, 3, none⟩ = some (.int .i64 0) := bce hb
      replace vr4 : w3.cell? ⟨w.heap.size + 1 + 1 + 1, 4, none⟩ = some (.int .i64 0) := bce hb
      replace vr5 : w3.cell? ⟨w.heap.size + 1 + 1 + 1, 5, none⟩ = some (.int .i64 0) := bce hb
      replace vz0 : w3.frozen? ⟨w.heap.size + 1 + 1 + 1, 0, none⟩ = false := bfz hb
      replace vz1 : w3.frozen? ⟨w.heap.size + 1 + 1 + 1, 1, none⟩ = false := bfz hb
      replace vz2 : w3.frozen? ⟨w.heap.size + 1 + 1 + 1, 2, none⟩ = false := bfz hb
      replace vz3 : w3.frozen? ⟨w.heap.size + 1 + 1 + 1, 3, none⟩ = false := bfz hb
      replace vz4 : w3.frozen? ⟨w.heap.size + 1 + 1 + 1, 4, none⟩ = false := bfz hb
      replace vz5 : w3.frozen? ⟨w.heap.size + 1 + 1 + 1, 5, none⟩ = false := bfz hb
      clear hb HB2
      have zy0_3 : w.heap.size < w3.heap.size := by omega
      have zy1_3 : w.heap.size + 1 < w3.heap.size := by omega
      have zy2_3 : w.heap.size + 1 + 1 < w3.heap.size := by omega
      have zy3_3 : w.heap.size + 1 + 1 + 1 < w3.heap.size := by omega
      go_wp2_with fail
      refine bodyPost_ret (by simp [results, Try.results42, go_sem, ext_cell, kp, *]; try rfl) rfl ?_
      exact ⟨rfl, kb⟩
    · rw [if_neg ho] at CK
      have e8 : E = 8 := by rw [← hE.out, if_neg ho]
      subst e8
      obtain rfl : Xx1 = 0 := by rw [← hx1.out, vzn (by omega)]
      obtain rfl : Xx2 = 0 := by rw [← hx2.out, vzn (by omega)]
      obtain rfl : Xy1 = 0 := by rw [← hy1.out, vzn (by omega)]
      obtain rfl : Xy2 = 0 := by rw [← hy2.out, vzn (by omega)]
      obtain rfl : Xz1 = 0 := by rw [← hz1.out, vzn (by omega)]
      obtain rfl : Xz2 = 0 := by rw [← hz2.out, vzn (by omega)]
      clear ho hE H0 H1 H2
      go_wp2_with fail
      with_reducible refine (CK _ _ (by simp) (all12 (by simp [li]) (by simp [li]) (by simp [li]) (by simp [li]) (by simp [li]) (by simp [li]) (by simp [li]) (by simp [li]) (by simp [li]) (by simp [li]) (by simp [li]) (by simp [li]))).mono ?_
      rintro e w1 ⟨rfl, hb⟩
      have HB1 : Below w.heap.size w w1 := by
        refine Below.trans ?_ (hb.mono ?_)
        · exact kb
        · first | omega | (simp <;> omega)
      have zs1 : wc.heap.size + 1 < w1.heap.size + 1 := by have := hb.size; (try simp at this); omega
      replace va0 : w1.cell? ⟨ga, 0, none⟩ = some (.int .i64 a) := bce hb
      replace va1 : w1.cell? ⟨ga, 1, none⟩ = some (.int .i64 b) := bce hb
      replace va2 : w1.cell? ⟨ga, 2, none⟩ = some (.int .i64 c) := bce hb
      replace va3 : w1.cell? ⟨ga, 3, none⟩ = some (.int .i64 d) := bce hb
      replace va4 : w1.cell? ⟨ga, 4, none⟩ = some (.int .i64 e) := bce hb
      replace va5 : w1.cell? ⟨ga, 5, none⟩ = some (.int .i64 f) := bce hb
      replace vb0 : w1.cell? ⟨gb, 0, none⟩ = some (.int .i64 g) := bce hb
      replace vb1 : w1.cell? ⟨gb, 1, none⟩ = some (.int .i64 h) := bce hb
      replace vb2 : w1.cell? ⟨gb, 2, none⟩ = some (.int .i64 i) := bce hb
      replace vb3 : w1.cell? ⟨gb, 3, none⟩ = some (.int .i64 j) := bce hb
      replace vb4 : w1.cell? ⟨gb, 4, none⟩ = some (.int .i64 k) := bce hb
      replace vb5 : w1.cell? ⟨gb, 5, none⟩ = some (.int .i64 l) := bce hb
      replace vf : w1.cell? ⟨w.heap.size, 0, none⟩ = some (.func (.func fo) #[] #[]) := bce hb
      replace vr0 : w1.cell? ⟨w.heap.size + 1 + 1 + 1, 0, none⟩ = some (.int .i64 0) := bce hb
      replace vr1 : w1.cell? ⟨w.heap.size + 1 + 1 + 1, 1, none⟩ = some (.int .i64 0) := bce hb
      replace vr2 : w1.cell? ⟨w.heap.size + 1 + 1 + 1, 2, none⟩ = some (.int .i64 0) := bce hb
      replace vr3 : w1.cell? ⟨w.heap.size + 1 + 1 + 1, 3, none⟩ = some (.int .i64 0) := bce hb
      replace vr4 : w1.cell? ⟨w.heap.size + 1 + 1 + 1, 4, none⟩ = some (.int .i64 0) := bce hb
      replace vr5 : w1.cell? ⟨w.heap.size + 1 + 1 + 1, 5, none⟩ = some (.int .i64 0) := bce hb
      replace vz0 : w1.frozen? ⟨w.heap.size + 1 + 1 + 1, 0, none⟩ = false := bfz hb
      replace vz1 : w1.frozen? ⟨w.heap.size + 1 + 1 + 1, 1, none⟩ = false := bfz hb
      replace vz2 : w1.frozen? ⟨w.heap.size + 1 + 1 + 1, 2, none⟩ = false := bfz hb
      replace vz3 : w1.frozen? ⟨w.heap.size + 1 + 1 + 1, 3, none⟩ = false := bfz hb
      replace vz4 : w1.frozen? ⟨w.heap.size + 1 + 1 + 1, 4, none⟩ = false := bfz hb
      replace vz5 : w1.frozen? ⟨w.heap.size + 1 + 1 + 1, 5, none⟩ = false := bfz hb
      clear hb HBc
      have zy0_1 : w.heap.size < w1.heap.size := by omega
      have zy1_1 : w.heap.size + 1 < w1.heap.size := by omega
      have zy2_1 : w.heap.size + 1 + 1 < w1.heap.size := by omega
      have zy3_1 : w.heap.size + 1 + 1 + 1 < w1.heap.size := by omega
      have zn_ga_1 : ga < w1.heap.size := by omega
      have zn_gb_1 : gb < w1.heap.size := by omega
      go_wp2_with fail
      refine bodyPost_ret (by simp [results, Try.results42, go_sem, ext_cell, kp, *]; try rfl) rfl ?_
      exact ⟨rfl, kb⟩

end Go.Proofs.Ytmjbeplcabomdaa
