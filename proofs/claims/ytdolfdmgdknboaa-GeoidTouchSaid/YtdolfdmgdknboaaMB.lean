/-
  Package vec: rows of numbers, vector.  Package vec: products of a matrix and a vector.  Plain words for matrices: valid ones; their check.
-/
import Derived.Test.YtdolfdmgdknboaaKu
import Derived.Test.YtdolfdmgdknboaaMA
namespace Go.Proofs.Ytdolfdmgdknboaa
open Go.RowKit
set_option linter.unusedVariables false
set_option linter.unusedSimpArgs false

theorem all6 {P : Nat → Prop} (p0 : P 0) (p1 : P 1) (p2 : P 2) (p3 : P 3) (p4 : P 4) (p5 : P 5) : ∀ o, o < 6 → P o := by
  intro o ho
  rcases (show o = 0 ∨ o = 1 ∨ o = 2 ∨ o = 3 ∨ o = 4 ∨ o = 5 by omega) with rfl | rfl | rfl | rfl | rfl | rfl <;> assumption
theorem all12 {P : Nat → Prop} (p0 : P 0) (p1 : P 1) (p2 : P 2) (p3 : P 3) (p4 : P 4) (p5 : P 5) (p6 : P 6) (p7 : P 7) (p8 : P 8) (p9 : P 9) (pa : P 10) (pb : P 11) : ∀ o, o < 12 → P o := by
  intro o ho
  rcases Nat.lt_or_ge o 6 with q | q
  · exact all6 p0 p1 p2 p3 p4 p5 o q
  · rcases (show o = 6 ∨ o = 7 ∨ o = 8 ∨ o = 9 ∨ o = 10 ∨ o = 11 by omega) with rfl | rfl | rfl | rfl | rfl | rfl <;> assumption
def li (l : List Int) (o : Nat) : Int := l.getD o 0
theorem rows1 (a b c d e f : Int) : rowsE (li [a, b, c, d, e, f]) 1 = chV a b c d e f := by
  unfold rowsE chV
  by_cases h : okV a b c d e f = true
  · rw [if_pos h, if_pos]
    intro i hi
    obtain rfl : i = 0 := by omega
    exact okV_in h
  · rw [if_neg h, if_neg]
    intro k
    obtain ⟨k1, k2, k3⟩ := k 0 (by omega)
    apply h; unfold okV
    have e1 : okF a b = true := k1
    have e2 : okF c d = true := k2
    have e3 : okF e f = true := k3
    rw [e1, e2, e3]; rfl
theorem rows2 (a b c d e f g h i j k l : Int) : rowsE (li [a, b, c, d, e, f, g, h, i, j, k, l]) 2 = if okV a b c d e f = true ∧ okV g h i j k l = true then 0 else 8 := by
  unfold rowsE
  by_cases q : okV a b c d e f = true ∧ okV g h i j k l = true
  · rw [if_pos q, if_pos]
    intro i hi
    rcases (show i = 0 ∨ i = 1 by omega) with rfl | rfl
    · exact okV_in q.1
    · exact okV_in q.2
  · rw [if_neg q, if_neg]
    intro r
    obtain ⟨k1, k2, k3⟩ := r 0 (by omega)
    obtain ⟨m1, m2, m3⟩ := r 1 (by omega)
    have e1 : okF a b = true := k1
    have e2 : okF c d = true := k2
    have e3 : okF e f = true := k3
    have f1 : okF g h = true := m1
    have f2 : okF i j = true := m2
    have f3 : okF k l = true := m3
    apply q; unfold okV; rw [e1, e2, e3, f1, f2, f3]; exact ⟨rfl, rfl⟩

set_option maxHeartbeats 400000 in
theorem vec_vector (a b c d e f E : Int) (w : World) :
    Calls Try.prog 46 #[.agg #[.int .i64 a, .int .i64 b, .int .i64 c, .int .i64 d, .int .i64 e, .int .i64 f], .int .i64 E] w fun x w' => x = .returned (.tuple #[.agg #[.int .i64 a, .int .i64 b, .int .i64 c, .int .i64 d, .int .i64 e, .int .i64 f], .int .i64 E]) ∧ Below w.heap.size w w' := by
  have xR := xRul
  go_enter Try.func46, Try.ntmps46
  go_wp2
  refine bodyPost_ret (by simp [results, Try.results46, go_sem, ext_cell, kp, *]; try rfl) rfl ?_
  exact ⟨rfl, kb⟩

end Go.Proofs.Ytdolfdmgdknboaa
namespace Go.Proofs.Ytdolfdmgdknboaa
open Go.RowKit
set_option linter.unusedVariables false
set_option linter.unusedSimpArgs false

set_option maxRecDepth 100000 in
set_option maxHeartbeats 6400000 in
theorem vec_Apply_ok (M V : Nat → Int) (x1 x2 x3 x4 x5 x6 e0 : Int) (DT : ∀ w : World, Calls Try.prog 47 #[.agg #[.int .i64 (M 0), .int .i64 (M 1), .int .i64 (M 2), .int .i64 (M 3), .int .i64 (M 4), .int .i64 (M 5), .int .i64 (M 6), .int .i64 (M 7), .int .i64 (M 8), .int .i64 (M 9), .int .i64 (M 10), .int .i64 (M 11), .int .i64 (M 12), .int .i64 (M 13), .int .i64 (M 14), .int .i64 (M 15), .int .i64 (M 16), .int .i64 (M 17)], .agg #[.int .i64 (V 0), .int .i64 (V 1), .int .i64 (V 2), .int .i64 (V 3), .int .i64 (V 4), .int .i64 (V 5)]] w fun x w' => x = .returned (.tuple #[.agg #[.int .i64 x1, .int .i64 x2, .int .i64 x3, .int .i64 x4, .int .i64 x5, .int .i64 x6], .int .i64 e0]) ∧ Below w.heap.size w w')
    (CK : ∀ (W : World) (g cap : Nat), g < W.heap.size → (∀ o, o < 24 → W.cell? ⟨g, o, none⟩ = some (.int .i64 (if o < 18 then M o else V (o - 18)))) → Calls Try.prog 45 #[.slice (some ⟨g, 0, none⟩) 4 cap] W fun x w' => x = .returned (.int .i64 0) ∧ Below W.heap.size W w') (w : World) :
    Calls Try.prog 10 #[.agg #[.int .i64 (M 0), .int .i64 (M 1), .int .i64 (M 2), .int .i64 (M 3), .int .i64 (M 4), .int .i64 (M 5), .int .i64 (M 6), .int .i64 (M 7), .int .i64 (M 8), .int .i64 (M 9), .int .i64 (M 10), .int .i64 (M 11), .int .i64 (M 12), .int .i64 (M 13), .int .i64 (M 14), .int .i64 (M 15), .int .i64 (M 16), .int .i64 (M 17)], .agg #[.int .i64 (V 0), .int .i64 (V 1), .int .i64 (V 2), .int .i64 (V 3), .int .i64 (V 4), .int .i64 (V 5)]] w fun x w' => x = .returned (.tuple #[.agg #[.int .i64 x1, .int .i64 x2, .int .i64 x3, .int .i64 x4, .int .i64 x5, .int .i64 x6], .int .i64 e0]) ∧ Below w.heap.size w w' := by
  have LI := fun w => vec_list (V 0) (V 1) (V 2) (V 3) (V 4) (V 5) w
  have xR := xRul
  have dz1 := dzA
  have dz2 := dzB
  go_enter Try.func10, Try.ntmps10
  go_upto_region 1 with fail
  refine opq (fun wx => Cs wx w.heap.size 18 M ∧ Cs wx (w.heap.size + 1) 6 V ∧ Cs wx (w.heap.size + 1 + 1) 6 (fun _ => 0) ∧ Fs wx (w.heap.size + 1 + 1) 6 ∧ w.heap.size + 1 + 1 < wx.heap.size ∧ Below w.heap.size w wx) ?_ ?_
  · exact ⟨cs_alloc _ (cs_alloc _ (cs_new rfl (arrM M)) (by simp)) (by simp <;> omega), cs_alloc _ (cs_new (by simp) (arrV V)) (by simp), cs_new (by simp) arr06, fs_new (by simp), by simp, kb⟩
  rintro wz ⟨cM, cN, cR, fR, zs, HBa⟩
  have hV : ∀ o, o < 6 → wz.cell? ⟨w.heap.size + 1, o, none⟩ = some (.int .i64 (V o)) := cN
  go_wp2_with fail
  with_reducible refine (LI _).mono ?_
  rintro e w4 ⟨rfl, hb⟩
  replace cM := cs_below cM hb (by omega)
  replace cN := cs_below cN hb (by omega)
  replace cR := cs_below cR hb (by omega)
  replace fR := fs_below fR hb (by omega)
  replace HBa := HBa.trans (hb.mono (by omega))
  replace zs := Nat.lt_of_lt_of_le zs hb.size
  clear hb hV LI
  go_upto_region 2 with fail
  refine opq (fun wx => Cs wx w.heap.size 18 M ∧ Cs wx w4.heap.size 6 V ∧ Cs wx (w.heap.size + 1 + 1) 6 (fun _ => 0) ∧ Fs wx (w.heap.size + 1 + 1) 6 ∧ w4.heap.size < wx.heap.size ∧ Below w.heap.size w wx) ?_ ?_
  · exact ⟨kc, by (intro o ho; rcases (show o = 0 ∨ o = 1 ∨ o = 2 ∨ o = 3 ∨ o = 4 ∨ o = 5 by omega) with rfl | rfl | rfl | rfl | rfl | rfl <;> (simp (maxDischargeDepth := 8) [go_sem, kp, *])), kc, kf, by (simp [World.setCell]), kg⟩
  clear cM cN cR fR HBa
  generalize w4.heap.size = q at *
  clear w4 wz
  rintro wa ⟨cM, cN, cR, fR, zq, HBa⟩
  refine wp_region_held_drew (S := (fun w' => Below wa.heap.size wa w')) (by kernel_rfl) ?_ (fun hHeld => ?_)
  · exact Below.drew (Below.refl _ _)
  refine wpAnyH_take (i := 0) (oi := _) (v := ?_) rfl (by kernel_rfl) (by kernel_rfl) (by kernel_rfl) (fun _ _ _ h => h) (Or.inl ⟨by rfl, ?_⟩) (by assumption) ?_
  rotate_left
  · (intro w hSw; (try dsimp only at hSw); go_simp; (try with_reducible rfl))
  try simp only [putA]
  refine take6r 1 (.tmp 6) q V rfl rfl (by kernel_rfl) (by kernel_rfl) (by kernel_rfl) (fun _ _ _ h => h) (by rfl) rfl (fun w k => cs_below cN k (by omega)) (by assumption) ?_
  try simp only [putA]
  refine wpAnyH_ready (rs := [2]) (by kernel_rfl) (by simp) ?_
  refine AllReadyH.cons (o := _) rfl (fun K hK => ?_) ?_
  · go_simp
    refine hK.out _ _ ?_ (fun hHeld2 => ?_)
    · first | exact bsub hHeld hb5 hHeld.size | exact bsub hHeld hb6 hHeld.size | (with_reducible repeat (first | exact hHeld | exact Below.refl _ _ | refine bex ?_ _ _ | refine bdn ?_ _ | refine bdr ?_ | refine bala ?_ _ | refine bsea ?_ _))
    clear hK K hHeld
    have hHeld := hHeld2
    clear hHeld2
    try simp only [putA]
    refine wpAnyH_ready (rs := [3]) (by kernel_rfl) (by simp) ?_
    refine AllReadyH.cons (o := _) rfl (fun K hK => ?_) ?_
    · refine step_rows (.tmp 10) (.tmp 12) w.heap.size wa.heap.size 1 1 M V rfl rfl rfl rfl (by omega) (by omega) (kc) (cs_new rfl (arrV V)) ?_
      intro g cap w5 hb5 zg hG
      refine hK.out _ _ ?_ (fun hHeld2 => ?_)
      · first | exact bsub hHeld hb5 hHeld.size | exact bsub hHeld hb6 hHeld.size | (with_reducible repeat (first | exact hHeld | exact Below.refl _ _ | refine bex ?_ _ _ | refine bdn ?_ _ | refine bdr ?_ | refine bala ?_ _ | refine bsea ?_ _))
      clear hK K hHeld
      have hHeld := hHeld2
      clear hHeld2
      try simp only [putA]
      refine wpAnyH_ready (rs := [4]) (by kernel_rfl) (by simp) ?_
      refine AllReadyH.cons (o := _) rfl (fun K hK => ?_) ?_
      · go_simp
        with_reducible refine (CK _ g cap zg (fun o ho => hG o (by omega))).mono ?_
        rintro e w6 ⟨rfl, hb6⟩
        (try go_wp2_with fail)
        refine hK.out _ _ ?_ (fun hHeld2 => ?_)
        · first | exact bsub hHeld hb5 hHeld.size | exact bsub hHeld hb6 hHeld.size | (with_reducible repeat (first | exact hHeld | exact Below.refl _ _ | refine bex ?_ _ _ | refine bdn ?_ _ | refine bdr ?_ | refine bala ?_ _ | refine bsea ?_ _))
        clear hK K hHeld
        have hHeld := hHeld2
        clear hHeld2
        try simp only [putA]
        refine wpAnyH_ready (rs := [5]) (by kernel_rfl) (by simp) ?_
        refine AllReadyH.cons (o := _) rfl (fun K hK => ?_) ?_
        · go_simp
          refine hK.out _ _ ?_ (fun hHeld2 => ?_)
          · first | exact bsub hHeld hb5 hHeld.size | exact bsub hHeld hb6 hHeld.size | (with_reducible repeat (first | exact hHeld | exact Below.refl _ _ | refine bex ?_ _ _ | refine bdn ?_ _ | refine bdr ?_ | refine bala ?_ _ | refine bsea ?_ _))
          clear hK K hHeld
          have hHeld := hHeld2
          clear hHeld2
          try simp only [putA]
          refine wpAnyH_done (by kernel_rfl) ?_ _
          have hb := hHeld
          clear hHeld hG hb5 hb6 zg
          replace cM := cs_below cM hb (by omega)
          replace cN := cs_below cN hb (by omega)
          replace cR := cs_below cR hb (by omega)
          replace fR := fs_below fR hb (by omega)
          replace HBa := HBa.trans (hb.mono (by omega))
          replace zq := Nat.lt_of_lt_of_le zq hb.size
          clear hb CK
          have VT := fun w => vec_vector x1 x2 x3 x4 x5 x6 e0 w
          have hN : ∀ o, o < 6 → w6.cell? ⟨q, o, none⟩ = some (.int .i64 (V o)) := cN
          go_upto_region 5 with fail
          go_step
          refine load18 (.tmp 2) _ M cM rfl rfl rfl ?_
          go_wp2_with fail
          with_reducible refine (DT _).mono ?_
          rintro e w7 ⟨rfl, hb⟩
          replace cR := cs_below cR hb (by omega)
          replace fR := fs_below fR hb (by omega)
          replace HBa := HBa.trans (hb.mono (by omega))
          replace zq := Nat.lt_of_lt_of_le zq hb.size
          clear hb DT hN cM cN
          go_wp2_with fail
          with_reducible refine (VT _).mono ?_
          rintro e w8 ⟨rfl, hb⟩
          replace cR := cs_below cR hb (by omega)
          replace fR := fs_below fR hb (by omega)
          replace HBa := HBa.trans (hb.mono (by omega))
          replace zq := Nat.lt_of_lt_of_le zq hb.size
          clear hb VT
          have hR : ∀ o, o < 6 → w8.cell? ⟨w.heap.size + 1 + 1, o, none⟩ = some (.int .i64 0) := cR
          have hF : ∀ o, o < 6 → w8.frozen? ⟨w.heap.size + 1 + 1, o, none⟩ = false := fR
          go_wp2
          refine bodyPost_ret (by simp [results, Try.results10, go_sem, ext_cell, kp, *]; try rfl) rfl ?_
          exact ⟨rfl, kb⟩
        exact AllReadyH.nil
      exact AllReadyH.nil
    exact AllReadyH.nil
  exact AllReadyH.nil

set_option maxRecDepth 100000 in
set_option maxHeartbeats 6400000 in
theorem vec_Apply_bad (M V : Nat → Int)
    (CK : ∀ (W : World) (g cap : Nat), g < W.heap.size → (∀ o, o < 24 → W.cell? ⟨g, o, none⟩ = some (.int .i64 (if o < 18 then M o else V (o - 18)))) → Calls Try.prog 45 #[.slice (some ⟨g, 0, none⟩) 4 cap] W fun x w' => x = .returned (.int .i64 8) ∧ Below W.heap.size W w') (w : World) :
    Calls Try.prog 10 #[.agg #[.int .i64 (M 0), .int .i64 (M 1), .int .i64 (M 2), .int .i64 (M 3), .int .i64 (M 4), .int .i64 (M 5), .int .i64 (M 6), .int .i64 (M 7), .int .i64 (M 8), .int .i64 (M 9), .int .i64 (M 10), .int .i64 (M 11), .int .i64 (M 12), .int .i64 (M 13), .int .i64 (M 14), .int .i64 (M 15), .int .i64 (M 16), .int .i64 (M 17)], .agg #[.int .i64 (V 0), .int .i64 (V 1), .int .i64 (V 2), .int .i64 (V 3), .int .i64 (V 4), .int .i64 (V 5)]] w fun x w' => x = .returned (.tuple #[.agg #[.int .i64 0, .int .i64 0, .int .i64 0, .int .i64 0, .int .i64 0, .int .i64 0], .int .i64 8]) ∧ Below w.heap.size w w' := by
  have LI := fun w => vec_list (V 0) (V 1) (V 2) (V 3) (V 4) (V 5) w
  have xR := xRul
  have dz1 := dzA
  have dz2 := dzB
  go_enter Try.func10, Try.ntmps10
  go_upto_region 1 with fail
  refine opq (fun wx => Cs wx w.heap.size 18 M ∧ Cs wx (w.heap.size + 1) 6 V ∧ Cs wx (w.heap.size + 1 + 1) 6 (fun _ => 0) ∧ Fs wx (w.heap.size + 1 + 1) 6 ∧ w.heap.size + 1 + 1 < wx.heap.size ∧ Below w.heap.size w wx) ?_ ?_
  · exact ⟨cs_alloc _ (cs_alloc _ (cs_new rfl (arrM M)) (by simp)) (by simp <;> omega), cs_alloc _ (cs_new (by simp) (arrV V)) (by simp), cs_new (by simp) arr06, fs_new (by simp), by simp, kb⟩
  rintro wz ⟨cM, cN, cR, fR, zs, HBa⟩
  have hV : ∀ o, o < 6 → wz.cell? ⟨w.heap.size + 1, o, none⟩ = some (.int .i64 (V o)) := cN
  go_wp2_with fail
  with_reducible refine (LI _).mono ?_
  rintro e w4 ⟨rfl, hb⟩
  replace cM := cs_below cM hb (by omega)
  replace cN := cs_below cN hb (by omega)
  replace cR := cs_below cR hb (by omega)
  replace fR := fs_below fR hb (by omega)
  replace HBa := HBa.trans (hb.mono (by omega))
  replace zs := Nat.lt_of_lt_of_le zs hb.size
  clear hb hV LI
  go_upto_region 2 with fail
  refine opq (fun wx => Cs wx w.heap.size 18 M ∧ Cs wx w4.heap.size 6 V ∧ Cs wx (w.heap.size + 1 + 1) 6 (fun _ => 0) ∧ Fs wx (w.heap.size + 1 + 1) 6 ∧ w4.heap.size < wx.heap.size ∧ Below w.heap.size w wx) ?_ ?_
  · exact ⟨kc, by (intro o ho; rcases (show o = 0 ∨ o = 1 ∨ o = 2 ∨ o = 3 ∨ o = 4 ∨ o = 5 by omega) with rfl | rfl | rfl | rfl | rfl | rfl <;> (simp (maxDischargeDepth := 8) [go_sem, kp, *])), kc, kf, by (simp [World.setCell]), kg⟩
  clear cM cN cR fR HBa
  generalize w4.heap.size = q at *
  clear w4 wz
  rintro wa ⟨cM, cN, cR, fR, zq, HBa⟩
  refine wp_region_held_drew (S := (fun w' => Below wa.heap.size wa w')) (by kernel_rfl) ?_ (fun hHeld => ?_)
  · exact Below.drew (Below.refl _ _)
  refine wpAnyH_take (i := 0) (oi := _) (v := ?_) rfl (by kernel_rfl) (by kernel_rfl) (by kernel_rfl) (fun _ _ _ h => h) (Or.inl ⟨by rfl, ?_⟩) (by assumption) ?_
  rotate_left
  · (intro w hSw; (try dsimp only at hSw); go_simp; (try with_reducible rfl))
  try simp only [putA]
  refine take6r 1 (.tmp 6) q V rfl rfl (by kernel_rfl) (by kernel_rfl) (by kernel_rfl) (fun _ _ _ h => h) (by rfl) rfl (fun w k => cs_below cN k (by omega)) (by assumption) ?_
  try simp only [putA]
  refine wpAnyH_ready (rs := [2]) (by kernel_rfl) (by simp) ?_
  refine AllReadyH.cons (o := _) rfl (fun K hK => ?_) ?_
  · go_simp
    refine hK.out _ _ ?_ (fun hHeld2 => ?_)
    · first | exact bsub hHeld hb5 hHeld.size | exact bsub hHeld hb6 hHeld.size | (with_reducible repeat (first | exact hHeld | exact Below.refl _ _ | refine bex ?_ _ _ | refine bdn ?_ _ | refine bdr ?_ | refine bala ?_ _ | refine bsea ?_ _))
    clear hK K hHeld
    have hHeld := hHeld2
    clear hHeld2
    try simp only [putA]
    refine wpAnyH_ready (rs := [3]) (by kernel_rfl) (by simp) ?_
    refine AllReadyH.cons (o := _) rfl (fun K hK => ?_) ?_
    · refine step_rows (.tmp 10) (.tmp 12) w.heap.size wa.heap.size 1 1 M V rfl rfl rfl rfl (by omega) (by omega) (kc) (cs_new rfl (arrV V)) ?_
      intro g cap w5 hb5 zg hG
      refine hK.out _ _ ?_ (fun hHeld2 => ?_)
      · first | exact bsub hHeld hb5 hHeld.size | exact bsub hHeld hb6 hHeld.size | (with_reducible repeat (first | exact hHeld | exact Below.refl _ _ | refine bex ?_ _ _ | refine bdn ?_ _ | refine bdr ?_ | refine bala ?_ _ | refine bsea ?_ _))
      clear hK K hHeld
      have hHeld := hHeld2
      clear hHeld2
      try simp only [putA]
      refine wpAnyH_ready (rs := [4]) (by kernel_rfl) (by simp) ?_
      refine AllReadyH.cons (o := _) rfl (fun K hK => ?_) ?_
      · go_simp
        with_reducible refine (CK _ g cap zg (fun o ho => hG o (by omega))).mono ?_
        rintro e w6 ⟨rfl, hb6⟩
        (try go_wp2_with fail)
        refine hK.out _ _ ?_ (fun hHeld2 => ?_)
        · first | exact bsub hHeld hb5 hHeld.size | exact bsub hHeld hb6 hHeld.size | (with_reducible repeat (first | exact hHeld | exact Below.refl _ _ | refine bex ?_ _ _ | refine bdn ?_ _ | refine bdr ?_ | refine bala ?_ _ | refine bsea ?_ _))
        clear hK K hHeld
        have hHeld := hHeld2
        clear hHeld2
        try simp only [putA]
        refine wpAnyH_ready (rs := [5]) (by kernel_rfl) (by simp) ?_
        refine AllReadyH.cons (o := _) rfl (fun K hK => ?_) ?_
        · go_simp
          refine hK.out _ _ ?_ (fun hHeld2 => ?_)
          · first | exact bsub hHeld hb5 hHeld.size | exact bsub hHeld hb6 hHeld.size | (with_reducible repeat (first | exact hHeld | exact Below.refl _ _ | refine bex ?_ _ _ | refine bdn ?_ _ | refine bdr ?_ | refine bala ?_ _ | refine bsea ?_ _))
          clear hK K hHeld
          have hHeld := hHeld2
          clear hHeld2
          try simp only [putA]
          refine wpAnyH_done (by kernel_rfl) ?_ _
          have hb := hHeld
          clear hHeld hG hb5 hb6 zg
          replace cM := cs_below cM hb (by omega)
          replace cN := cs_below cN hb (by omega)
          replace cR := cs_below cR hb (by omega)
          replace fR := fs_below fR hb (by omega)
          replace HBa := HBa.trans (hb.mono (by omega))
          replace zq := Nat.lt_of_lt_of_le zq hb.size
          clear hb CK
          have hR : ∀ o, o < 6 → w6.cell? ⟨w.heap.size + 1 + 1, o, none⟩ = some (.int .i64 0) := cR
          have hF : ∀ o, o < 6 → w6.frozen? ⟨w.heap.size + 1 + 1, o, none⟩ = false := fR
          go_wp2
          refine bodyPost_ret (by simp [results, Try.results10, go_sem, ext_cell, kp, *]; try rfl) rfl ?_
          exact ⟨rfl, kb⟩
        exact AllReadyH.nil
      exact AllReadyH.nil
    exact AllReadyH.nil
  exact AllReadyH.nil

end Go.Proofs.Ytdolfdmgdknboaa
namespace Go.Proofs.Ytdolfdmgdknboaa
open Go.RowKit
set_option linter.unusedVariables false
set_option linter.unusedSimpArgs false

/-- The numbers of a matrix are of 64 bits; a matrix is valid. -/
def okCM (M : Nat → Int) : Prop := ∀ i, i < 3 → okC (M (i * 6)) (M (i * 6 + 1)) ∧ okC (M (i * 6 + 2)) (M (i * 6 + 3)) ∧ okC (M (i * 6 + 4)) (M (i * 6 + 5))
def okM (M : Nat → Int) : Prop := ∀ i, i < 3 → rowOk M i
instance (M : Nat → Int) : Decidable (okM M) := by unfold okM; infer_instance
theorem okM_row (M : Nat → Int) (h : okM M) : okV (M 0) (M 1) (M 2) (M 3) (M 4) (M 5) = true ∧ okV (M 6) (M 7) (M 8) (M 9) (M 10) (M 11) = true ∧ okV (M 12) (M 13) (M 14) (M 15) (M 16) (M 17) = true := by
  obtain ⟨a1, a2, a3⟩ := h 0 (by omega)
  obtain ⟨b1, b2, b3⟩ := h 1 (by omega)
  obtain ⟨c1, c2, c3⟩ := h 2 (by omega)
  have e1 : okF (M 0) (M 1) = true := a1
  have e2 : okF (M 2) (M 3) = true := a2
  have e3 : okF (M 4) (M 5) = true := a3
  have f1 : okF (M 6) (M 7) = true := b1
  have f2 : okF (M 8) (M 9) = true := b2
  have f3 : okF (M 10) (M 11) = true := b3
  have g1 : okF (M 12) (M 13) = true := c1
  have g2 : okF (M 14) (M 15) = true := c2
  have g3 : okF (M 16) (M 17) = true := c3
  unfold okV; rw [e1, e2, e3, f1, f2, f3, g1, g2, g3]; exact ⟨rfl, rfl, rfl⟩

def chM (M : Nat → Int) : Int := if okM M then 0 else 8
theorem okM_of {M : Nat → Int} (h0 : okV (M 0) (M 1) (M 2) (M 3) (M 4) (M 5) = true) (h1 : okV (M 6) (M 7) (M 8) (M 9) (M 10) (M 11) = true) (h2 : okV (M 12) (M 13) (M 14) (M 15) (M 16) (M 17) = true) : okM M := by
  intro i hi
  rcases (show i = 0 ∨ i = 1 ∨ i = 2 by omega) with rfl | rfl | rfl
  · exact okV_in h0
  · exact okV_in h1
  · exact okV_in h2
theorem okCM_row {M : Nat → Int} (h : okCM M) : (okC (M 0) (M 1) ∧ okC (M 2) (M 3) ∧ okC (M 4) (M 5)) ∧ (okC (M 6) (M 7) ∧ okC (M 8) (M 9) ∧ okC (M 10) (M 11)) ∧ (okC (M 12) (M 13) ∧ okC (M 14) (M 15) ∧ okC (M 16) (M 17)) :=
  ⟨h 0 (by omega), h 1 (by omega), h 2 (by omega)⟩
theorem okM_okCM {M : Nat → Int} (h : okM M) : okCM M := by
  intro i hi
  obtain ⟨h1, h2, h3⟩ := h i hi
  exact ⟨okC_of h1, okC_of h2, okC_of h3⟩
theorem chM_ok {M : Nat → Int} (h : okM M) : chM M = 0 := by unfold chM; rw [if_pos h]
theorem chM_bad {M : Nat → Int} (h : ¬ okM M) : chM M = 8 := by unfold chM; rw [if_neg h]
theorem check_mat (M : Nat → Int) (hb : okCM M) (W : World) (g : Nat) (h1 : g < W.heap.size) (h2 : ∀ o, o < 18 → W.cell? ⟨g, o, none⟩ = some (.int .i64 (M o))) :
    Calls Try.prog 45 #[.slice (some ⟨g, 0, none⟩) 3 3] W fun x w' => x = .returned (.int .i64 (chM M)) ∧ Below W.heap.size W w' := vec_check M g 3 3 (by omega) hb W h1 h2
end Go.Proofs.Ytdolfdmgdknboaa
