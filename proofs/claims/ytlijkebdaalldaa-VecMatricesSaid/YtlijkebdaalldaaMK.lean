/-
  The reference: the product of a valid matrix and a valid vector.  Determinants, by the reference, of valid matrices.
-/
import Derived.Test.YtlijkebdaalldaaKu
import Derived.Test.YtlijkebdaalldaaMJ
import Derived.Test.YtlijkebdaalldaaMA
import Derived.Test.YtlijkebdaalldaaMF
import Derived.Lib.Hide
namespace Go.Proofs.Ytlijkebdaalldaa
open Go.RowKit
set_option linter.unusedVariables false
set_option linter.unusedSimpArgs false

set_option maxRecDepth 100000 in
set_option maxHeartbeats 3200000 in
theorem ref2_apply_ok (M V : Nat → Int) (x1 x2 x3 y1 y2 y3 z1 z2 z3 : Int) (VA : ∀ w : World, Calls Try.prog 51 #[.agg #[.int .i64 (M 0), .int .i64 (M 1), .int .i64 (M 2), .int .i64 (M 3), .int .i64 (M 4), .int .i64 (M 5), .int .i64 (M 6), .int .i64 (M 7), .int .i64 (M 8), .int .i64 (M 9), .int .i64 (M 10), .int .i64 (M 11), .int .i64 (M 12), .int .i64 (M 13), .int .i64 (M 14), .int .i64 (M 15), .int .i64 (M 16), .int .i64 (M 17)]] w fun x w' => x = .returned (.int .i64 0) ∧ Below w.heap.size w w')
    (CV : ∀ w : World, Calls Try.prog 52 #[.agg #[.int .i64 (V 0), .int .i64 (V 1), .int .i64 (V 2), .int .i64 (V 3), .int .i64 (V 4), .int .i64 (V 5)]] w fun x w' => x = .returned (.int .i64 0) ∧ Below w.heap.size w w')
    (D0 : ∀ w : World, Calls Try.prog 53 #[.agg #[.int .i64 (M 0), .int .i64 (M 1), .int .i64 (M 2), .int .i64 (M 3), .int .i64 (M 4), .int .i64 (M 5)], .agg #[.int .i64 (V 0), .int .i64 (V 1), .int .i64 (V 2), .int .i64 (V 3), .int .i64 (V 4), .int .i64 (V 5)]] w fun x w' => x = .returned (.tuple #[.agg #[.int .i64 x1, .int .i64 x2], .int .i64 x3]) ∧ Below w.heap.size w w')
    (D1 : ∀ w : World, Calls Try.prog 53 #[.agg #[.int .i64 (M 6), .int .i64 (M 7), .int .i64 (M 8), .int .i64 (M 9), .int .i64 (M 10), .int .i64 (M 11)], .agg #[.int .i64 (V 0), .int .i64 (V 1), .int .i64 (V 2), .int .i64 (V 3), .int .i64 (V 4), .int .i64 (V 5)]] w fun x w' => x = .returned (.tuple #[.agg #[.int .i64 y1, .int .i64 y2], .int .i64 y3]) ∧ Below w.heap.size w w')
    (D2 : ∀ w : World, Calls Try.prog 53 #[.agg #[.int .i64 (M 12), .int .i64 (M 13), .int .i64 (M 14), .int .i64 (M 15), .int .i64 (M 16), .int .i64 (M 17)], .agg #[.int .i64 (V 0), .int .i64 (V 1), .int .i64 (V 2), .int .i64 (V 3), .int .i64 (V 4), .int .i64 (V 5)]] w fun x w' => x = .returned (.tuple #[.agg #[.int .i64 z1, .int .i64 z2], .int .i64 z3]) ∧ Below w.heap.size w w')
    (F1 : ∀ w : World, Calls Try.prog 56 #[.int .i64 x3, .int .i64 y3, .int .i64 z3] w fun x w' => x = .returned (.int .i64 (fsI x3 y3 z3)) ∧ w' = w)
    (X1 X2 X3 X4 X5 X6 : Int) (F2 : ∀ w : World, Calls Try.prog 55 #[.agg #[.int .i64 x1, .int .i64 x2], .agg #[.int .i64 y1, .int .i64 y2], .agg #[.int .i64 z1, .int .i64 z2], .int .i64 (fsI x3 y3 z3)] w fun x w' => x = .returned (.tuple #[.agg #[.int .i64 X1, .int .i64 X2, .int .i64 X3, .int .i64 X4, .int .i64 X5, .int .i64 X6], .int .i64 (fsI x3 y3 z3)]) ∧ Below w.heap.size w w') (w : World) :
    Calls Try.prog 23 #[.agg #[.int .i64 (M 0), .int .i64 (M 1), .int .i64 (M 2), .int .i64 (M 3), .int .i64 (M 4), .int .i64 (M 5), .int .i64 (M 6), .int .i64 (M 7), .int .i64 (M 8), .int .i64 (M 9), .int .i64 (M 10), .int .i64 (M 11), .int .i64 (M 12), .int .i64 (M 13), .int .i64 (M 14), .int .i64 (M 15), .int .i64 (M 16), .int .i64 (M 17)], .agg #[.int .i64 (V 0), .int .i64 (V 1), .int .i64 (V 2), .int .i64 (V 3), .int .i64 (V 4), .int .i64 (V 5)]] w fun x w' => x = .returned (.tuple #[.agg #[.int .i64 X1, .int .i64 X2, .int .i64 X3, .int .i64 X4, .int .i64 X5, .int .i64 X6], .int .i64 (fsI x3 y3 z3)]) ∧ Below w.heap.size w w' := by
  generalize fsI x3 y3 z3 = E at *
  have R0 := fun w => ref2_Row0 M w
  have R1 := fun w => ref2_Row1 M w
  have R2 := fun w => ref2_Row2 M w
  have xR := xRul
  have dz1 := dzA
  have dz2 := dzB
  go_enter Try.func23, Try.ntmps23
  go_upto_region 1 with fail
  refine opq (fun wx => Cs wx w.heap.size 18 M ∧ Cs wx (w.heap.size + 1) 6 V ∧ Cs wx (w.heap.size + 1 + 1) 6 (fun _ => 0) ∧ Fs wx (w.heap.size + 1 + 1) 6 ∧ w.heap.size + 1 + 1 < wx.heap.size ∧ Below w.heap.size w wx) ?_ ?_
  · exact ⟨cs_alloc _ (cs_alloc _ (cs_new rfl (arrM M)) (by simp)) (by simp <;> omega), cs_alloc _ (cs_new (by simp) (arrV V)) (by simp), cs_new (by simp) arr06, fs_new (by simp), by simp, kb⟩
  rintro wa ⟨cM, cV, cR, fR, zs, HBa⟩
  go_step
  refine load18 (.tmp 2) _ M cM rfl rfl rfl ?_
  go_wp2_with fail
  with_reducible refine (VA _).mono ?_
  rintro e w1 ⟨rfl, hb⟩
  replace cM := cs_below cM hb (by omega)
  replace cV := cs_below cV hb (by omega)
  replace cR := cs_below cR hb (by omega)
  replace fR := fs_below fR hb (by omega)
  replace HBa := HBa.trans (hb.mono (by omega))
  replace zs : w.heap.size + 1 + 1 < w1.heap.size := Nat.lt_of_lt_of_le zs hb.size
  clear hb VA
  have hV : ∀ o, o < 6 → w1.cell? ⟨w.heap.size + 1, o, none⟩ = some (.int .i64 (V o)) := cV
  go_wp2_with fail
  with_reducible refine (CV _).mono ?_
  rintro e w2 ⟨rfl, hb⟩
  replace cM := cs_below cM hb (by omega)
  replace cV := cs_below cV hb (by omega)
  replace cR := cs_below cR hb (by omega)
  replace fR := fs_below fR hb (by omega)
  replace HBa := HBa.trans (hb.mono (by omega))
  replace zs : w.heap.size + 1 + 1 < w2.heap.size := Nat.lt_of_lt_of_le zs hb.size
  clear hb CV hV
  go_wp2_with fail
  go_cut [6, 7] (fun s6 s7 wx => ∃ g0 : Nat, s6 = .pointer (some ⟨g0, 0, none⟩) ∧ s7 = .int .i64 x3 ∧ wx.cell? ⟨g0, 0, none⟩ = some (.int .i64 x1) ∧ wx.cell? ⟨g0, 1, none⟩ = some (.int .i64 x2) ∧ w.heap.size + 1 + 1 < g0 ∧ g0 < wx.heap.size ∧ Below w2.heap.size w2 wx)
  case first =>
    refine wp_region_held_drew (S := (fun w' => Below w2.heap.size w2 w')) (by kernel_rfl) ?_ (fun hHeld => ?_)
    · exact Below.drew (Below.refl _ _)
    refine take18 0 (.tmp 2) w.heap.size M rfl rfl (by kernel_rfl) (by kernel_rfl) (by kernel_rfl) (fun _ _ _ h => h) (by rfl) rfl (fun w k => cs_below cM k (by omega)) (by assumption) ?_
    try simp only [putA]
    refine take6v 2 (.tmp 3) (w.heap.size + 1) V rfl rfl (by kernel_rfl) (by kernel_rfl) (by kernel_rfl) (fun _ _ _ h => h) (by rfl) rfl (fun w k => cs_below cV k (by omega)) (by assumption) ?_
    try simp only [putA]
    refine wpAnyH_ready (rs := [1, 7]) (by kernel_rfl) (by simp) ?_
    refine AllReadyH.cons (o := _) rfl (fun K hK => ?_) ?_
    · go_simp
      with_reducible refine (R0 _).mono ?_
      rintro e w' ⟨rfl, hb⟩
      obtain ⟨l9, d9, rfl⟩ := toExt hb
      clear hb
      (try go_wp2_with fail)
      refine hK.out _ _ ?_ (fun hHeld2 => ?_)
      · exact kg
      clear hK K hHeld
      have hHeld := hHeld2
      clear hHeld2
      try simp only [putA]
      refine wpAnyH_ready (rs := [3, 7]) (by kernel_rfl) (by simp) ?_
      refine AllReadyH.cons (o := _) rfl (fun K hK => ?_) ?_
      · go_simp
        with_reducible refine (D0 _).mono ?_
        rintro e w' ⟨rfl, hb⟩
        obtain ⟨l9, d9, rfl⟩ := toExt hb
        clear hb
        (try go_wp2_with fail)
        refine hK.out _ _ ?_ (fun hHeld2 => ?_)
        · exact kg
        clear hK K hHeld
        have hHeld := hHeld2
        clear hHeld2
        try simp only [putA]
        refine wpAnyH_take (i := 4) (oi := _) (v := ?_) rfl (by kernel_rfl) (by kernel_rfl) (by kernel_rfl) (fun _ _ _ h => h) (Or.inl ⟨by rfl, ?_⟩) (by assumption) ?_
        rotate_left
        · (intro w hSw; (try dsimp only at hSw); go_simp; (try with_reducible rfl))
        try simp only [putA]
        refine wpAnyH_take (i := 5) (oi := _) (v := ?_) rfl (by kernel_rfl) (by kernel_rfl) (by kernel_rfl) (fun _ _ _ h => h) (Or.inl ⟨by rfl, ?_⟩) (by assumption) ?_
        rotate_left
        · (intro w hSw; (try dsimp only at hSw); go_simp; (try with_reducible rfl))
        try simp only [putA]
        refine wpAnyH_take (i := 6) (oi := _) (v := ?_) rfl (by kernel_rfl) (by kernel_rfl) (by kernel_rfl) (fun _ _ _ h => h) (Or.inl ⟨by rfl, ?_⟩) (by assumption) ?_
        rotate_left
        · (intro w hSw; (try dsimp only at hSw); go_simp; (try with_reducible rfl))
        try simp only [putA]
        refine wpAnyH_ready (rs := [7]) (by kernel_rfl) (by simp) ?_
        refine AllReadyH.cons (o := _) rfl (fun K hK => ?_) ?_
        · go_simp
          refine hK.out _ _ ?_ (fun hHeld2 => ?_)
          · exact kg
          clear hK K hHeld
          have hHeld := hHeld2
          clear hHeld2
          try simp only [putA]
          refine wpAnyH_ready (rs := [8]) (by kernel_rfl) (by simp) ?_
          refine AllReadyH.cons (o := _) rfl (fun K hK => ?_) ?_
          · go_simp
            refine hK.out _ _ ?_ (fun hHeld2 => ?_)
            · exact kg
            clear hK K hHeld
            have hHeld := hHeld2
            clear hHeld2
            try simp only [putA]
            refine wpAnyH_ready (rs := [9]) (by kernel_rfl) (by simp) ?_
            refine AllReadyH.cons (o := _) rfl (fun K hK => ?_) ?_
            · go_simp
              refine hK.out _ _ ?_ (fun hHeld2 => ?_)
              · exact kg
              clear hK K hHeld
              have hHeld := hHeld2
              clear hHeld2
              try simp only [putA]
              refine wpAnyH_done (by kernel_rfl) ?_ _
              (try go_wp2_with fail)
              go_meet
              exact ⟨_, rfl, rfl, kk, kk, by (first | omega | (simp [ext_size, World.setCell] <;> omega)), by (simp [ext_size, World.setCell] <;> omega), kg⟩
            exact AllReadyH.nil
          exact AllReadyH.nil
        exact AllReadyH.nil
      refine AllReadyH.cons (o := _) rfl (fun K hK => ?_) ?_
      · go_simp
        refine hK.out _ _ ?_ (fun hHeld2 => ?_)
        · exact kg
        clear hK K hHeld
        have hHeld := hHeld2
        clear hHeld2
        try simp only [putA]
        refine wpAnyH_ready (rs := [3]) (by kernel_rfl) (by simp) ?_
        refine AllReadyH.cons (o := _) rfl (fun K hK => ?_) ?_
        · go_simp
          with_reducible refine (D0 _).mono ?_
          rintro e w' ⟨rfl, hb⟩
          obtain ⟨l9, d9, rfl⟩ := toExt hb
          clear hb
          (try go_wp2_with fail)
          refine hK.out _ _ ?_ (fun hHeld2 => ?_)
          · exact kg
          clear hK K hHeld
          have hHeld := hHeld2
          clear hHeld2
          try simp only [putA]
          refine wpAnyH_take (i := 4) (oi := _) (v := ?_) rfl (by kernel_rfl) (by kernel_rfl) (by kernel_rfl) (fun _ _ _ h => h) (Or.inl ⟨by rfl, ?_⟩) (by assumption) ?_
          rotate_left
          · (intro w hSw; (try dsimp only at hSw); go_simp; (try with_reducible rfl))
          try simp only [putA]
          refine wpAnyH_take (i := 5) (oi := _) (v := ?_) rfl (by kernel_rfl) (by kernel_rfl) (by kernel_rfl) (fun _ _ _ h => h) (Or.inl ⟨by rfl, ?_⟩) (by assumption) ?_
          rotate_left
          · (intro w hSw; (try dsimp only at hSw); go_simp; (try with_reducible rfl))
          try simp only [putA]
          refine wpAnyH_take (i := 6) (oi := _) (v := ?_) rfl (by kernel_rfl) (by kernel_rfl) (by kernel_rfl) (fun _ _ _ h => h) (Or.inl ⟨by rfl, ?_⟩) (by assumption) ?_
          rotate_left
          · (intro w hSw; (try dsimp only at hSw); go_simp; (try with_reducible rfl))
          try simp only [putA]
          refine wpAnyH_ready (rs := [8]) (by kernel_rfl) (by simp) ?_
          refine AllReadyH.cons (o := _) rfl (fun K hK => ?_) ?_
          · go_simp
            refine hK.out _ _ ?_ (fun hHeld2 => ?_)
            · exact kg
            clear hK K hHeld
            have hHeld := hHeld2
            clear hHeld2
            try simp only [putA]
            refine wpAnyH_ready (rs := [9]) (by kernel_rfl) (by simp) ?_
            refine AllReadyH.cons (o := _) rfl (fun K hK => ?_) ?_
            · go_simp
              refine hK.out _ _ ?_ (fun hHeld2 => ?_)
              · exact kg
              clear hK K hHeld
              have hHeld := hHeld2
              clear hHeld2
              try simp only [putA]
              refine wpAnyH_done (by kernel_rfl) ?_ _
              (try go_wp2_with fail)
              go_meet
              exact ⟨_, rfl, rfl, kk, kk, by (first | omega | (simp [ext_size, World.setCell] <;> omega)), by (simp [ext_size, World.setCell] <;> omega), kg⟩
            exact AllReadyH.nil
          exact AllReadyH.nil
        exact AllReadyH.nil
      exact AllReadyH.nil
    refine AllReadyH.cons (o := _) rfl (fun K hK => ?_) ?_
    · go_simp
      refine hK.out _ _ ?_ (fun hHeld2 => ?_)
      · exact kg
      clear hK K hHeld
      have hHeld := hHeld2
      clear hHeld2
      try simp only [putA]
      refine wpAnyH_ready (rs := [1]) (by kernel_rfl) (by simp) ?_
      refine AllReadyH.cons (o := _) rfl (fun K hK => ?_) ?_
      · go_simp
        with_reducible refine (R0 _).mono ?_
        rintro e w' ⟨rfl, hb⟩
        obtain ⟨l9, d9, rfl⟩ := toExt hb
        clear hb
        (try go_wp2_with fail)
        refine hK.out _ _ ?_ (fun hHeld2 => ?_)
        · exact kg
        clear hK K hHeld
        have hHeld := hHeld2
        clear hHeld2
        try simp only [putA]
        refine wpAnyH_ready (rs := [3]) (by kernel_rfl) (by simp) ?_
        refine AllReadyH.cons (o := _) rfl (fun K hK => ?_) ?_
        · go_simp
          with_reducible refine (D0 _).mono ?_
          rintro e w' ⟨rfl, hb⟩
          obtain ⟨l9, d9, rfl⟩ := toExt hb
          clear hb
          (try go_wp2_with fail)
          refine hK.out _ _ ?_ (fun hHeld2 => ?_)
          · exact kg
          clear hK K hHeld
          have hHeld := hHeld2
          clear hHeld2
          try simp only [putA]
          refine wpAnyH_take (i := 4) (oi := _) (v := ?_) rfl (by kernel_rfl) (by kernel_rfl) (by kernel_rfl) (fun _ _ _ h => h) (Or.inl ⟨by rfl, ?_⟩) (by assumption) ?_
          rotate_left
          · (intro w hSw; (try dsimp only at hSw); go_simp; (try with_reducible rfl))
          try simp only [putA]
          refine wpAnyH_take (i := 5) (oi := _) (v := ?_) rfl (by kernel_rfl) (by kernel_rfl) (by kernel_rfl) (fun _ _ _ h => h) (Or.inl ⟨by rfl, ?_⟩) (by assumption) ?_
          rotate_left
          · (intro w hSw; (try dsimp only at hSw); go_simp; (try with_reducible rfl))
          try simp only [putA]
          refine wpAnyH_take (i := 6) (oi := _) (v := ?_) rfl (by kernel_rfl) (by kernel_rfl) (by kernel_rfl) (fun _ _ _ h => h) (Or.inl ⟨by rfl, ?_⟩) (by assumption) ?_
          rotate_left
          · (intro w hSw; (try dsimp only at hSw); go_simp; (try with_reducible rfl))
          try simp only [putA]
          refine wpAnyH_ready (rs := [8]) (by kernel_rfl) (by simp) ?_
          refine AllReadyH.cons (o := _) rfl (fun K hK => ?_) ?_
          · go_simp
            refine hK.out _ _ ?_ (fun hHeld2 => ?_)
            · exact kg
            clear hK K hHeld
            have hHeld := hHeld2
            clear hHeld2
            try simp only [putA]
            refine wpAnyH_ready (rs := [9]) (by kernel_rfl) (by simp) ?_
            refine AllReadyH.cons (o := _) rfl (fun K hK => ?_) ?_
            · go_simp
              refine hK.out _ _ ?_ (fun hHeld2 => ?_)
              · exact kg
              clear hK K hHeld
              have hHeld := hHeld2
              clear hHeld2
              try simp only [putA]
              refine wpAnyH_done (by kernel_rfl) ?_ _
              (try go_wp2_with fail)
              go_meet
              exact ⟨_, rfl, rfl, kk, kk, by (first | omega | (simp [ext_size, World.setCell] <;> omega)), by (simp [ext_size, World.setCell] <;> omega), kg⟩
            exact AllReadyH.nil
          exact AllReadyH.nil
        exact AllReadyH.nil
      exact AllReadyH.nil
    exact AllReadyH.nil
  case rest =>
  obtain ⟨g0, rfl, rfl, a0, b0, yg0, zg0, hb⟩ := hcut
  replace cM := cs_below cM hb (by omega)
  replace cV := cs_below cV hb (by omega)
  replace cR := cs_below cR hb (by omega)
  replace fR := fs_below fR hb (by omega)
  replace HBa := HBa.trans (hb.mono (by omega))
  replace zs := Nat.lt_of_lt_of_le zs hb.size
  clear hb D0 R0

  go_wp2_with fail
  go_cut [8, 9] (fun s8 s9 wx => ∃ g1 : Nat, s8 = .pointer (some ⟨g1, 0, none⟩) ∧ s9 = .int .i64 y3 ∧ wx.cell? ⟨g1, 0, none⟩ = some (.int .i64 y1) ∧ wx.cell? ⟨g1, 1, none⟩ = some (.int .i64 y2) ∧ w.heap.size + 1 + 1 < g1 ∧ g1 < wx.heap.size ∧ Below wc.heap.size wc wx)
  case first =>
    refine wp_region_held_drew (S := (fun w' => Below wc.heap.size wc w')) (by kernel_rfl) ?_ (fun hHeld => ?_)
    · exact Below.drew (Below.refl _ _)
    refine take18 0 (.tmp 2) w.heap.size M rfl rfl (by kernel_rfl) (by kernel_rfl) (by kernel_rfl) (fun _ _ _ h => h) (by rfl) rfl (fun w k => cs_below cM k (by omega)) (by assumption) ?_
    try simp only [putA]
    refine take6v 2 (.tmp 3) (w.heap.size + 1) V rfl rfl (by kernel_rfl) (by kernel_rfl) (by kernel_rfl) (fun _ _ _ h => h) (by rfl) rfl (fun w k => cs_below cV k (by omega)) (by assumption) ?_
    try simp only [putA]
    refine wpAnyH_ready (rs := [1, 7]) (by kernel_rfl) (by simp) ?_
    refine AllReadyH.cons (o := _) rfl (fun K hK => ?_) ?_
    · go_simp
      with_reducible refine (R1 _).mono ?_
      rintro e w' ⟨rfl, hb⟩
      obtain ⟨l9, d9, rfl⟩ := toExt hb
      clear hb
      (try go_wp2_with fail)
      refine hK.out _ _ ?_ (fun hHeld2 => ?_)
      · exact kg
      clear hK K hHeld
      have hHeld := hHeld2
      clear hHeld2
      try simp only [putA]
      refine wpAnyH_ready (rs := [3, 7]) (by kernel_rfl) (by simp) ?_
      refine AllReadyH.cons (o := _) rfl (fun K hK => ?_) ?_
      · go_simp
        with_reducible refine (D1 _).mono ?_
        rintro e w' ⟨rfl, hb⟩
        obtain ⟨l9, d9, rfl⟩ := toExt hb
        clear hb
        (try go_wp2_with fail)
        refine hK.out _ _ ?_ (fun hHeld2 => ?_)
        · exact kg
        clear hK K hHeld
        have hHeld := hHeld2
        clear hHeld2
        try simp only [putA]
        refine wpAnyH_take (i := 4) (oi := _) (v := ?_) rfl (by kernel_rfl) (by kernel_rfl) (by kernel_rfl) (fun _ _ _ h => h) (Or.inl ⟨by rfl, ?_⟩) (by assumption) ?_
        rotate_left
        · (intro w hSw; (try dsimp only at hSw); go_simp; (try with_reducible rfl))
        try simp only [putA]
        refine wpAnyH_take (i := 5) (oi := _) (v := ?_) rfl (by kernel_rfl) (by kernel_rfl) (by kernel_rfl) (fun _ _ _ h => h) (Or.inl ⟨by rfl, ?_⟩) (by assumption) ?_
        rotate_left
        · (intro w hSw; (try dsimp only at hSw); go_simp; (try with_reducible rfl))
        try simp only [putA]
        refine wpAnyH_take (i := 6) (oi := _) (v := ?_) rfl (by kernel_rfl) (by kernel_rfl) (by kernel_rfl) (fun _ _ _ h => h) (Or.inl ⟨by rfl, ?_⟩) (by assumption) ?_
        rotate_left
        · (intro w hSw; (try dsimp only at hSw); go_simp; (try with_reducible rfl))
        try simp only [putA]
        refine wpAnyH_ready (rs := [7]) (by kernel_rfl) (by simp) ?_
        refine AllReadyH.cons (o := _) rfl (fun K hK => ?_) ?_
        · go_simp
          refine hK.out _ _ ?_ (fun hHeld2 => ?_)
          · exact kg
          clear hK K hHeld
          have hHeld := hHeld2
          clear hHeld2
          try simp only [putA]
          refine wpAnyH_ready (rs := [8]) (by kernel_rfl) (by simp) ?_
          refine AllReadyH.cons (o := _) rfl (fun K hK => ?_) ?_
          · go_simp
            refine hK.out _ _ ?_ (fun hHeld2 => ?_)
            · exact kg
            clear hK K hHeld
            have hHeld := hHeld2
            clear hHeld2
            try simp only [putA]
            refine wpAnyH_ready (rs := [9]) (by kernel_rfl) (by simp) ?_
            refine AllReadyH.cons (o := _) rfl (fun K hK => ?_) ?_
            · go_simp
              refine hK.out _ _ ?_ (fun hHeld2 => ?_)
              · exact kg
              clear hK K hHeld
              have hHeld := hHeld2
              clear hHeld2
              try simp only [putA]
              refine wpAnyH_done (by kernel_rfl) ?_ _
              (try go_wp2_with fail)
              go_meet
              exact ⟨_, rfl, rfl, kk, kk, by (first | omega | (simp [ext_size, World.setCell] <;> omega)), by (simp [ext_size, World.setCell] <;> omega), kg⟩
            exact AllReadyH.nil
          exact AllReadyH.nil
        exact AllReadyH.nil
      refine AllReadyH.cons (o := _) rfl (fun K hK => ?_) ?_
      · go_simp
        refine hK.out _ _ ?_ (fun hHeld2 => ?_)
        · exact kg
        clear hK K hHeld
        have hHeld := hHeld2
        clear hHeld2
        try simp only [putA]
        refine wpAnyH_ready (rs := [3]) (by kernel_rfl) (by simp) ?_
        refine AllReadyH.cons (o := _) rfl (fun K hK => ?_) ?_
        · go_simp
          with_reducible refine (D1 _).mono ?_
          rintro e w' ⟨rfl, hb⟩
          obtain ⟨l9, d9, rfl⟩ := toExt hb
          clear hb
          (try go_wp2_with fail)
          refine hK.out _ _ ?_ (fun hHeld2 => ?_)
          · exact kg
          clear hK K hHeld
          have hHeld := hHeld2
          clear hHeld2
          try simp only [putA]
          refine wpAnyH_take (i := 4) (oi := _) (v := ?_) rfl (by kernel_rfl) (by kernel_rfl) (by kernel_rfl) (fun _ _ _ h => h) (Or.inl ⟨by rfl, ?_⟩) (by assumption) ?_
          rotate_left
          · (intro w hSw; (try dsimp only at hSw); go_simp; (try with_reducible rfl))
          try simp only [putA]
          refine wpAnyH_take (i := 5) (oi := _) (v := ?_) rfl (by kernel_rfl) (by kernel_rfl) (by kernel_rfl) (fun _ _ _ h => h) (Or.inl ⟨by rfl, ?_⟩) (by assumption) ?_
          rotate_left
          · (intro w hSw; (try dsimp only at hSw); go_simp; (try with_reducible rfl))
          try simp only [putA]
          refine wpAnyH_take (i := 6) (oi := _) (v := ?_) rfl (by kernel_rfl) (by kernel_rfl) (by kernel_rfl) (fun _ _ _ h => h) (Or.inl ⟨by rfl, ?_⟩) (by assumption) ?_
          rotate_left
          · (intro w hSw; (try dsimp only at hSw); go_simp; (try with_reducible rfl))
          try simp only [putA]
          refine wpAnyH_ready (rs := [8]) (by kernel_rfl) (by simp) ?_
          refine AllReadyH.cons (o := _) rfl (fun K hK => ?_) ?_
          · go_simp
            refine hK.out _ _ ?_ (fun hHeld2 => ?_)
            · exact kg
            clear hK K hHeld
            have hHeld := hHeld2
            clear hHeld2
            try simp only [putA]
            refine wpAnyH_ready (rs := [9]) (by kernel_rfl) (by simp) ?_
            refine AllReadyH.cons (o := _) rfl (fun K hK => ?_) ?_
            · go_simp
              refine hK.out _ _ ?_ (fun hHeld2 => ?_)
              · exact kg
              clear hK K hHeld
              have hHeld := hHeld2
              clear hHeld2
              try simp only [putA]
              refine wpAnyH_done (by kernel_rfl) ?_ _
              (try go_wp2_with fail)
              go_meet
              exact ⟨_, rfl, rfl, kk, kk, by (first | omega | (simp [ext_size, World.setCell] <;> omega)), by (simp [ext_size, World.setCell] <;> omega), kg⟩
            exact AllReadyH.nil
          exact AllReadyH.nil
        exact AllReadyH.nil
      exact AllReadyH.nil
    refine AllReadyH.cons (o := _) rfl (fun K hK => ?_) ?_
    · go_simp
      refine hK.out _ _ ?_ (fun hHeld2 => ?_)
      · exact kg
      clear hK K hHeld
      have hHeld := hHeld2
      clear hHeld2
      try simp only [putA]
      refine wpAnyH_ready (rs := [1]) (by kernel_rfl) (by simp) ?_
      refine AllReadyH.cons (o := _) rfl (fun K hK => ?_) ?_
      · go_simp
        with_reducible refine (R1 _).mono ?_
        rintro e w' ⟨rfl, hb⟩
        obtain ⟨l9, d9, rfl⟩ := toExt hb
        clear hb
        (try go_wp2_with fail)
        refine hK.out _ _ ?_ (fun hHeld2 => ?_)
        · exact kg
        clear hK K hHeld
        have hHeld := hHeld2
        clear hHeld2
        try simp only [putA]
        refine wpAnyH_ready (rs := [3]) (by kernel_rfl) (by simp) ?_
        refine AllReadyH.cons (o := _) rfl (fun K hK => ?_) ?_
        · go_simp
          with_reducible refine (D1 _).mono ?_
          rintro e w' ⟨rfl, hb⟩
          obtain ⟨l9, d9, rfl⟩ := toExt hb
          clear hb
          (try go_wp2_with fail)
          refine hK.out _ _ ?_ (fun hHeld2 => ?_)
          · exact kg
          clear hK K hHeld
          have hHeld := hHeld2
          clear hHeld2
          try simp only [putA]
          refine wpAnyH_take (i := 4) (oi := _) (v := ?_) rfl (by kernel_rfl) (by kernel_rfl) (by kernel_rfl) (fun _ _ _ h => h) (Or.inl ⟨by rfl, ?_⟩) (by assumption) ?_
          rotate_left
          · (intro w hSw; (try dsimp only at hSw); go_simp; (try with_reducible rfl))
          try simp only [putA]
          refine wpAnyH_take (i := 5) (oi := _) (v := ?_) rfl (by kernel_rfl) (by kernel_rfl) (by kernel_rfl) (fun _ _ _ h => h) (Or.inl ⟨by rfl, ?_⟩) (by assumption) ?_
          rotate_left
          · (intro w hSw; (try dsimp only at hSw); go_simp; (try with_reducible rfl))
          try simp only [putA]
          refine wpAnyH_take (i := 6) (oi := _) (v := ?_) rfl (by kernel_rfl) (by kernel_rfl) (by kernel_rfl) (fun _ _ _ h => h) (Or.inl ⟨by rfl, ?_⟩) (by assumption) ?_
          rotate_left
          · (intro w hSw; (try dsimp only at hSw); go_simp; (try with_reducible rfl))
          try simp only [putA]
          refine wpAnyH_ready (rs := [8]) (by kernel_rfl) (by simp) ?_
          refine AllReadyH.cons (o := _) rfl (fun K hK => ?_) ?_
          · go_simp
            refine hK.out _ _ ?_ (fun hHeld2 => ?_)
            · exact kg
            clear hK K hHeld
            have hHeld := hHeld2
            clear hHeld2
            try simp only [putA]
            refine wpAnyH_ready (rs := [9]) (by kernel_rfl) (by simp) ?_
            refine AllReadyH.cons (o := _) rfl (fun K hK => ?_) ?_
            · go_simp
              refine hK.out _ _ ?_ (fun hHeld2 => ?_)
              · exact kg
              clear hK K hHeld
              have hHeld := hHeld2
              clear hHeld2
              try simp only [putA]
              refine wpAnyH_done (by kernel_rfl) ?_ _
              (try go_wp2_with fail)
              go_meet
              exact ⟨_, rfl, rfl, kk, kk, by (first | omega | (simp [ext_size, World.setCell] <;> omega)), by (simp [ext_size, World.setCell] <;> omega), kg⟩
            exact AllReadyH.nil
          exact AllReadyH.nil
        exact AllReadyH.nil
      exact AllReadyH.nil
    exact AllReadyH.nil
  case rest =>
  obtain ⟨g1, rfl, rfl, a1, b1, yg1, zg1, hb⟩ := hcut
  replace cM := cs_below cM hb (by omega)
  replace cV := cs_below cV hb (by omega)
  replace cR := cs_below cR hb (by omega)
  replace fR := fs_below fR hb (by omega)
  replace HBa := HBa.trans (hb.mono (by omega))
  replace zs := Nat.lt_of_lt_of_le zs hb.size
  replace a0 := (hb.cell zg0).trans a0
  replace b0 := (hb.cell zg0).trans b0
  replace zg0 := Nat.lt_of_lt_of_le zg0 hb.size
  clear hb D1 R1

  go_wp2_with fail
  go_cut [10, 11] (fun s10 s11 wx => ∃ g2 : Nat, s10 = .pointer (some ⟨g2, 0, none⟩) ∧ s11 = .int .i64 z3 ∧ wx.cell? ⟨g2, 0, none⟩ = some (.int .i64 z1) ∧ wx.cell? ⟨g2, 1, none⟩ = some (.int .i64 z2) ∧ w.heap.size + 1 + 1 < g2 ∧ g2 < wx.heap.size ∧ Below wc.heap.size wc wx)
  case first =>
    refine wp_region_held_drew (S := (fun w' => Below wc.heap.size wc w')) (by kernel_rfl) ?_ (fun hHeld => ?_)
    · exact Below.drew (Below.refl _ _)
    refine take18 0 (.tmp 2) w.heap.size M rfl rfl (by kernel_rfl) (by kernel_rfl) (by kernel_rfl) (fun _ _ _ h => h) (by rfl) rfl (fun w k => cs_below cM k (by omega)) (by assumption) ?_
    try simp only [putA]
    refine take6v 2 (.tmp 3) (w.heap.size + 1) V rfl rfl (by kernel_rfl) (by kernel_rfl) (by kernel_rfl) (fun _ _ _ h => h) (by rfl) rfl (fun w k => cs_below cV k (by omega)) (by assumption) ?_
    try simp only [putA]
    refine wpAnyH_ready (rs := [1, 7]) (by kernel_rfl) (by simp) ?_
    refine AllReadyH.cons (o := _) rfl (fun K hK => ?_) ?_
    · go_simp
      with_reducible refine (R2 _).mono ?_
      rintro e w' ⟨rfl, hb⟩
      obtain ⟨l9, d9, rfl⟩ := toExt hb
      clear hb
      (try go_wp2_with fail)
      refine hK.out _ _ ?_ (fun hHeld2 => ?_)
      · exact kg
      clear hK K hHeld
      have hHeld := hHeld2
      clear hHeld2
      try simp only [putA]
      refine wpAnyH_ready (rs := [3, 7]) (by kernel_rfl) (by simp) ?_
      refine AllReadyH.cons (o := _) rfl (fun K hK => ?_) ?_
      · go_simp
        with_reducible refine (D2 _).mono ?_
        rintro e w' ⟨rfl, hb⟩
        obtain ⟨l9, d9, rfl⟩ := toExt hb
        clear hb
        (try go_wp2_with fail)
        refine hK.out _ _ ?_ (fun hHeld2 => ?_)
        · exact kg
        clear hK K hHeld
        have hHeld := hHeld2
        clear hHeld2
        try simp only [putA]
        refine wpAnyH_take (i := 4) (oi := _) (v := ?_) rfl (by kernel_rfl) (by kernel_rfl) (by kernel_rfl) (fun _ _ _ h => h) (Or.inl ⟨by rfl, ?_⟩) (by assumption) ?_
        rotate_left
        · (intro w hSw; (try dsimp only at hSw); go_simp; (try with_reducible rfl))
        try simp only [putA]
        refine wpAnyH_take (i := 5) (oi := _) (v := ?_) rfl (by kernel_rfl) (by kernel_rfl) (by kernel_rfl) (fun _ _ _ h => h) (Or.inl ⟨by rfl, ?_⟩) (by assumption) ?_
        rotate_left
        · (intro w hSw; (try dsimp only at hSw); go_simp; (try with_reducible rfl))
        try simp only [putA]
        refine wpAnyH_take (i := 6) (oi := _) (v := ?_) rfl (by kernel_rfl) (by kernel_rfl) (by kernel_rfl) (fun _ _ _ h => h) (Or.inl ⟨by rfl, ?_⟩) (by assumption) ?_
        rotate_left
        · (intro w hSw; (try dsimp only at hSw); go_simp; (try with_reducible rfl))
        try simp only [putA]
        refine wpAnyH_ready (rs := [7]) (by kernel_rfl) (by simp) ?_
        refine AllReadyH.cons (o := _) rfl (fun K hK => ?_) ?_
        · go_simp
          refine hK.out _ _ ?_ (fun hHeld2 => ?_)
          · exact kg
          clear hK K hHeld
          have hHeld := hHeld2
          clear hHeld2
          try simp only [putA]
          refine wpAnyH_ready (rs := [8]) (by kernel_rfl) (by simp) ?_
          refine AllReadyH.cons (o := _) rfl (fun K hK => ?_) ?_
          · go_simp
            refine hK.out _ _ ?_ (fun hHeld2 => ?_)
            · exact kg
            clear hK K hHeld
            have hHeld := hHeld2
            clear hHeld2
            try simp only [putA]
            refine wpAnyH_ready (rs := [9]) (by kernel_rfl) (by simp) ?_
            refine AllReadyH.cons (o := _) rfl (fun K hK => ?_) ?_
            · go_simp
              refine hK.out _ _ ?_ (fun hHeld2 => ?_)
              · exact kg
              clear hK K hHeld
              have hHeld := hHeld2
              clear hHeld2
              try simp only [putA]
              refine wpAnyH_done (by kernel_rfl) ?_ _
              (try go_wp2_with fail)
              go_meet
              exact ⟨_, rfl, rfl, kk, kk, by (first | omega | (simp [ext_size, World.setCell] <;> omega)), by (simp [ext_size, World.setCell] <;> omega), kg⟩
            exact AllReadyH.nil
          exact AllReadyH.nil
        exact AllReadyH.nil
      refine AllReadyH.cons (o := _) rfl (fun K hK => ?_) ?_
      · go_simp
        refine hK.out _ _ ?_ (fun hHeld2 => ?_)
        · exact kg
        clear hK K hHeld
        have hHeld := hHeld2
        clear hHeld2
        try simp only [putA]
        refine wpAnyH_ready (rs := [3]) (by kernel_rfl) (by simp) ?_
        refine AllReadyH.cons (o := _) rfl (fun K hK => ?_) ?_
        · go_simp
          with_reducible refine (D2 _).mono ?_
          rintro e w' ⟨rfl, hb⟩
          obtain ⟨l9, d9, rfl⟩ := toExt hb
          clear hb
          (try go_wp2_with fail)
          refine hK.out _ _ ?_ (fun hHeld2 => ?_)
          · exact kg
          clear hK K hHeld
          have hHeld := hHeld2
          clear hHeld2
          try simp only [putA]
          refine wpAnyH_take (i := 4) (oi := _) (v := ?_) rfl (by kernel_rfl) (by kernel_rfl) (by kernel_rfl) (fun _ _ _ h => h) (Or.inl ⟨by rfl, ?_⟩) (by assumption) ?_
          rotate_left
          · (intro w hSw; (try dsimp only at hSw); go_simp; (try with_reducible rfl))
          try simp only [putA]
          refine wpAnyH_take (i := 5) (oi := _) (v := ?_) rfl (by kernel_rfl) (by kernel_rfl) (by kernel_rfl) (fun _ _ _ h => h) (Or.inl ⟨by rfl, ?_⟩) (by assumption) ?_
          rotate_left
          · (intro w hSw; (try dsimp only at hSw); go_simp; (try with_reducible rfl))
          try simp only [putA]
          refine wpAnyH_take (i := 6) (oi := _) (v := ?_) rfl (by kernel_rfl) (by kernel_rfl) (by kernel_rfl) (fun _ _ _ h => h) (Or.inl ⟨by rfl, ?_⟩) (by assumption) ?_
          rotate_left
          · (intro w hSw; (try dsimp only at hSw); go_simp; (try with_reducible rfl))
          try simp only [putA]
          refine wpAnyH_ready (rs := [8]) (by kernel_rfl) (by simp) ?_
          refine AllReadyH.cons (o := _) rfl (fun K hK => ?_) ?_
          · go_simp
            refine hK.out _ _ ?_ (fun hHeld2 => ?_)
            · exact kg
            clear hK K hHeld
            have hHeld := hHeld2
            clear hHeld2
            try simp only [putA]
            refine wpAnyH_ready (rs := [9]) (by kernel_rfl) (by simp) ?_
            refine AllReadyH.cons (o := _) rfl (fun K hK => ?_) ?_
            · go_simp
              refine hK.out _ _ ?_ (fun hHeld2 => ?_)
              · exact kg
              clear hK K hHeld
              have hHeld := hHeld2
              clear hHeld2
              try simp only [putA]
              refine wpAnyH_done (by kernel_rfl) ?_ _
              (try go_wp2_with fail)
              go_meet
              exact ⟨_, rfl, rfl, kk, kk, by (first | omega | (simp [ext_size, World.setCell] <;> omega)), by (simp [ext_size, World.setCell] <;> omega), kg⟩
            exact AllReadyH.nil
          exact AllReadyH.nil
        exact AllReadyH.nil
      exact AllReadyH.nil
    refine AllReadyH.cons (o := _) rfl (fun K hK => ?_) ?_
    · go_simp
      refine hK.out _ _ ?_ (fun hHeld2 => ?_)
      · exact kg
      clear hK K hHeld
      have hHeld := hHeld2
      clear hHeld2
      try simp only [putA]
      refine wpAnyH_ready (rs := [1]) (by kernel_rfl) (by simp) ?_
      refine AllReadyH.cons (o := _) rfl (fun K hK => ?_) ?_
      · go_simp
        with_reducible refine (R2 _).mono ?_
        rintro e w' ⟨rfl, hb⟩
        obtain ⟨l9, d9, rfl⟩ := toExt hb
        clear hb
        (try go_wp2_with fail)
        refine hK.out _ _ ?_ (fun hHeld2 => ?_)
        · exact kg
        clear hK K hHeld
        have hHeld := hHeld2
        clear hHeld2
        try simp only [putA]
        refine wpAnyH_ready (rs := [3]) (by kernel_rfl) (by simp) ?_
        refine AllReadyH.cons (o := _) rfl (fun K hK => ?_) ?_
        · go_simp
          with_reducible refine (D2 _).mono ?_
          rintro e w' ⟨rfl, hb⟩
          obtain ⟨l9, d9, rfl⟩ := toExt hb
          clear hb
          (try go_wp2_with fail)
          refine hK.out _ _ ?_ (fun hHeld2 => ?_)
          · exact kg
          clear hK K hHeld
          have hHeld := hHeld2
          clear hHeld2
          try simp only [putA]
          refine wpAnyH_take (i := 4) (oi := _) (v := ?_) rfl (by kernel_rfl) (by kernel_rfl) (by kernel_rfl) (fun _ _ _ h => h) (Or.inl ⟨by rfl, ?_⟩) (by assumption) ?_
          rotate_left
          · (intro w hSw; (try dsimp only at hSw); go_simp; (try with_reducible rfl))
          try simp only [putA]
          refine wpAnyH_take (i := 5) (oi := _) (v := ?_) rfl (by kernel_rfl) (by kernel_rfl) (by kernel_rfl) (fun _ _ _ h => h) (Or.inl ⟨by rfl, ?_⟩) (by assumption) ?_
          rotate_left
          · (intro w hSw; (try dsimp only at hSw); go_simp; (try with_reducible rfl))
          try simp only [putA]
          refine wpAnyH_take (i := 6) (oi := _) (v := ?_) rfl (by kernel_rfl) (by kernel_rfl) (by kernel_rfl) (fun _ _ _ h => h) (Or.inl ⟨by rfl, ?_⟩) (by assumption) ?_
          rotate_left
          · (intro w hSw; (try dsimp only at hSw); go_simp; (try with_reducible rfl))
          try simp only [putA]
          refine wpAnyH_ready (rs := [8]) (by kernel_rfl) (by simp) ?_
          refine AllReadyH.cons (o := _) rfl (fun K hK => ?_) ?_
          · go_simp
            refine hK.out _ _ ?_ (fun hHeld2 => ?_)
            · exact kg
            clear hK K hHeld
            have hHeld := hHeld2
            clear hHeld2
            try simp only [putA]
            refine wpAnyH_ready (rs := [9]) (by kernel_rfl) (by simp) ?_
            refine AllReadyH.cons (o := _) rfl (fun K hK => ?_) ?_
            · go_simp
              refine hK.out _ _ ?_ (fun hHeld2 => ?_)
              · exact kg
              clear hK K hHeld
              have hHeld := hHeld2
              clear hHeld2
              try simp only [putA]
              refine wpAnyH_done (by kernel_rfl) ?_ _
              (try go_wp2_with fail)
              go_meet
              exact ⟨_, rfl, rfl, kk, kk, by (first | omega | (simp [ext_size, World.setCell] <;> omega)), by (simp [ext_size, World.setCell] <;> omega), kg⟩
            exact AllReadyH.nil
          exact AllReadyH.nil
        exact AllReadyH.nil
      exact AllReadyH.nil
    exact AllReadyH.nil
  case rest =>
  obtain ⟨g2, rfl, rfl, a2, b2, yg2, zg2, hb⟩ := hcut
  replace cM := cs_below cM hb (by omega)
  replace cV := cs_below cV hb (by omega)
  replace cR := cs_below cR hb (by omega)
  replace fR := fs_below fR hb (by omega)
  replace HBa := HBa.trans (hb.mono (by omega))
  replace zs := Nat.lt_of_lt_of_le zs hb.size
  replace a0 := (hb.cell zg0).trans a0
  replace b0 := (hb.cell zg0).trans b0
  replace zg0 := Nat.lt_of_lt_of_le zg0 hb.size
  replace a1 := (hb.cell zg1).trans a1
  replace b1 := (hb.cell zg1).trans b1
  replace zg1 := Nat.lt_of_lt_of_le zg1 hb.size
  clear hb D2 R2

  have hR : ∀ o, o < 6 → wc.cell? ⟨w.heap.size + 1 + 1, o, none⟩ = some (.int .i64 0) := cR
  have hF : ∀ o, o < 6 → wc.frozen? ⟨w.heap.size + 1 + 1, o, none⟩ = false := fR
  clear cM cV cR fR
  go_wp2_with fail
  go_region_held3 (fun w' => w'.cell? ⟨g0, 0, none⟩ = some (.int .i64 x1) ∧ w'.cell? ⟨g0, 1, none⟩ = some (.int .i64 x2) ∧ w'.cell? ⟨g1, 0, none⟩ = some (.int .i64 y1) ∧ w'.cell? ⟨g1, 1, none⟩ = some (.int .i64 y2) ∧ w'.cell? ⟨g2, 0, none⟩ = some (.int .i64 z1) ∧ w'.cell? ⟨g2, 1, none⟩ = some (.int .i64 z2)) (simp (maxDischargeDepth := 8) [go_sem, kp, *])
    ((first | (go_at_call 56; with_reducible refine (F1 _).mono ?_; rintro e w' ⟨rfl, rfl⟩) | (go_at_call 55; with_reducible refine (F2 _).mono ?_; rintro e w' ⟨rfl, hb⟩; obtain ⟨l9, d9, rfl⟩ := toExt hb; clear hb)))
  all_goals (try go_wp2)
  all_goals refine bodyPost_ret (by simp [results, Try.results23, go_sem, ext_cell, kp, *]; try rfl) rfl ?_
  all_goals exact ⟨rfl, kb⟩
end Go.Proofs.Ytlijkebdaalldaa
namespace Go.Proofs.Ytlijkebdaalldaa
open Go.RowKit
set_option linter.unusedVariables false
set_option linter.unusedSimpArgs false

set_option maxRecDepth 100000 in
set_option maxHeartbeats 8000000 in
theorem ref2_det_ok (M X : Nat → Int) (e0 r1 r2 r3 : Int) (VA : ∀ w : World, Calls Try.prog 51 #[.agg #[.int .i64 (M 0), .int .i64 (M 1), .int .i64 (M 2), .int .i64 (M 3), .int .i64 (M 4), .int .i64 (M 5), .int .i64 (M 6), .int .i64 (M 7), .int .i64 (M 8), .int .i64 (M 9), .int .i64 (M 10), .int .i64 (M 11), .int .i64 (M 12), .int .i64 (M 13), .int .i64 (M 14), .int .i64 (M 15), .int .i64 (M 16), .int .i64 (M 17)]] w fun x w' => x = .returned (.int .i64 0) ∧ Below w.heap.size w w')
    (CX : ∀ w : World, Calls Try.prog 58 #[.agg #[.int .i64 (M 6), .int .i64 (M 7), .int .i64 (M 8), .int .i64 (M 9), .int .i64 (M 10), .int .i64 (M 11)], .agg #[.int .i64 (M 12), .int .i64 (M 13), .int .i64 (M 14), .int .i64 (M 15), .int .i64 (M 16), .int .i64 (M 17)]] w fun x w' => x = .returned (.tuple #[.agg #[.int .i64 (X 0), .int .i64 (X 1), .int .i64 (X 2), .int .i64 (X 3), .int .i64 (X 4), .int .i64 (X 5)], .int .i64 e0]) ∧ Below w.heap.size w w')
    (D : e0 = 0 → ∀ w : World, Calls Try.prog 53 #[.agg #[.int .i64 (M 0), .int .i64 (M 1), .int .i64 (M 2), .int .i64 (M 3), .int .i64 (M 4), .int .i64 (M 5)], .agg #[.int .i64 (X 0), .int .i64 (X 1), .int .i64 (X 2), .int .i64 (X 3), .int .i64 (X 4), .int .i64 (X 5)]] w fun x w' => x = .returned (.tuple #[.agg #[.int .i64 r1, .int .i64 r2], .int .i64 r3]) ∧ Below w.heap.size w w')
    (w : World) :
    Calls Try.prog 26 #[.agg #[.int .i64 (M 0), .int .i64 (M 1), .int .i64 (M 2), .int .i64 (M 3), .int .i64 (M 4), .int .i64 (M 5), .int .i64 (M 6), .int .i64 (M 7), .int .i64 (M 8), .int .i64 (M 9), .int .i64 (M 10), .int .i64 (M 11), .int .i64 (M 12), .int .i64 (M 13), .int .i64 (M 14), .int .i64 (M 15), .int .i64 (M 16), .int .i64 (M 17)]] w fun x w' => x = .returned (.tuple #[.agg #[.int .i64 (if e0 = 0 then r1 else 0), .int .i64 (if e0 = 0 then r2 else 0)], .int .i64 (if e0 = 0 then r3 else e0)]) ∧ Below w.heap.size w w' := by
  generalize hz1 : (if e0 = 0 then r1 else 0) = Z1
  generalize hz2 : (if e0 = 0 then r2 else 0) = Z2
  generalize hz3 : (if e0 = 0 then r3 else e0) = Z3
  have HZ1 := Lib.hid hz1
  have HZ2 := Lib.hid hz2
  have HZ3 := Lib.hid hz3
  clear hz1 hz2 hz3
  have R0 := fun w => ref2_Row0 M w
  have R1 := fun w => ref2_Row1 M w
  have R2 := fun w => ref2_Row2 M w
  have HD := Lib.hid D
  clear D
  have xR := xRul
  have dz1 := dzA
  have dz2 := dzB
  go_enter Try.func26, Try.ntmps26
  go_upto_region 1 with fail
  refine opq (fun wx => Cs wx w.heap.size 18 M ∧ wx.cell? ⟨w.heap.size + 1, 0, none⟩ = some (.int .i64 0) ∧ wx.cell? ⟨w.heap.size + 1, 1, none⟩ = some (.int .i64 0) ∧ wx.frozen? ⟨w.heap.size + 1, 0, none⟩ = false ∧ wx.frozen? ⟨w.heap.size + 1, 1, none⟩ = false ∧ w.heap.size + 1 < wx.heap.size ∧ Below w.heap.size w wx) ?_ ?_
  · exact ⟨cs_alloc _ (cs_new rfl (arrM M)) (by simp), kk, kk, kk, kk, by simp, kb⟩
  rintro wz ⟨cM, k0, k1, f0, f1, zs, HBa⟩
  go_step
  refine load18 (.tmp 1) _ M cM rfl rfl rfl ?_
  go_wp2_with fail
  with_reducible refine (VA _).mono ?_
  rintro e w1 ⟨rfl, hb⟩
  replace cM := cs_below cM hb (by omega)
  replace k0 := (hb.cell (by omega)).trans k0
  replace k1 := (hb.cell (by omega)).trans k1
  replace f0 := (hb.frozen (by omega)).trans f0
  replace f1 := (hb.frozen (by omega)).trans f1
  replace HBa := HBa.trans (hb.mono (by omega))
  replace zs := Nat.lt_of_lt_of_le zs hb.size
  clear hb VA
  go_wp2_with fail
  go_cut [4, 5] (fun s4 s5 wx => ∃ q : Nat, s4 = .pointer (some ⟨q, 0, none⟩) ∧ s5 = .int .i64 e0 ∧ Cs wx q 6 X ∧ w.heap.size + 1 < q ∧ q < wx.heap.size ∧ Below w1.heap.size w1 wx)
  case first =>
    refine wp_region_held_drew (S := (fun w' => Below w1.heap.size w1 w')) (by kernel_rfl) ?_ (fun hHeld => ?_)
    · exact Below.drew (Below.refl _ _)
    refine take18 0 (.tmp 1) w.heap.size M rfl rfl (by kernel_rfl) (by kernel_rfl) (by kernel_rfl) (fun _ _ _ h => h) (by rfl) rfl (fun w k => cs_below cM k (by omega)) (by assumption) ?_
    try simp only [putA]
    refine take18 2 (.tmp 1) w.heap.size M rfl rfl (by kernel_rfl) (by kernel_rfl) (by kernel_rfl) (fun _ _ _ h => h) (by rfl) rfl (fun w k => cs_below cM k (by omega)) (by assumption) ?_
    try simp only [putA]
    refine wpAnyH_ready (rs := [1, 8]) (by kernel_rfl) (by simp) ?_
    refine AllReadyH.cons (o := _) rfl (fun K hK => ?_) ?_
    · go_simp
      with_reducible refine (R1 _).mono ?_
      rintro e w' ⟨rfl, hb⟩
      obtain ⟨l9, d9, rfl⟩ := toExt hb
      clear hb
      (try go_wp2_with fail)
      refine hK.out _ _ ?_ (fun hHeld2 => ?_)
      · exact kg
      clear hK K hHeld
      have hHeld := hHeld2
      clear hHeld2
      try simp only [putA]
      refine wpAnyH_ready (rs := [3, 8]) (by kernel_rfl) (by simp) ?_
      refine AllReadyH.cons (o := _) rfl (fun K hK => ?_) ?_
      · go_simp
        with_reducible refine (R2 _).mono ?_
        rintro e w' ⟨rfl, hb⟩
        obtain ⟨l9, d9, rfl⟩ := toExt hb
        clear hb
        (try go_wp2_with fail)
        refine hK.out _ _ ?_ (fun hHeld2 => ?_)
        · exact kg
        clear hK K hHeld
        have hHeld := hHeld2
        clear hHeld2
        try simp only [putA]
        refine wpAnyH_ready (rs := [4, 8]) (by kernel_rfl) (by simp) ?_
        refine AllReadyH.cons (o := _) rfl (fun K hK => ?_) ?_
        · go_simp
          with_reducible refine (CX _).mono ?_
          rintro e w' ⟨rfl, hb⟩
          obtain ⟨l9, d9, rfl⟩ := toExt hb
          clear hb
          (try go_wp2_with fail)
          refine hK.out _ _ ?_ (fun hHeld2 => ?_)
          · exact kg
          clear hK K hHeld
          have hHeld := hHeld2
          clear hHeld2
          try simp only [putA]
          refine wpAnyH_take (i := 5) (oi := _) (v := ?_) rfl (by kernel_rfl) (by kernel_rfl) (by kernel_rfl) (fun _ _ _ h => h) (Or.inl ⟨by rfl, ?_⟩) (by assumption) ?_
          rotate_left
          · (intro w hSw; (try dsimp only at hSw); go_simp; (try with_reducible rfl))
          try simp only [putA]
          refine wpAnyH_take (i := 6) (oi := _) (v := ?_) rfl (by kernel_rfl) (by kernel_rfl) (by kernel_rfl) (fun _ _ _ h => h) (Or.inl ⟨by rfl, ?_⟩) (by assumption) ?_
          rotate_left
          · (intro w hSw; (try dsimp only at hSw); go_simp; (try with_reducible rfl))
          try simp only [putA]
          refine wpAnyH_take (i := 7) (oi := _) (v := ?_) rfl (by kernel_rfl) (by kernel_rfl) (by kernel_rfl) (fun _ _ _ h => h) (Or.inl ⟨by rfl, ?_⟩) (by assumption) ?_
          rotate_left
          · (intro w hSw; (try dsimp only at hSw); go_simp; (try with_reducible rfl))
          try simp only [putA]
          refine wpAnyH_ready (rs := [8]) (by kernel_rfl) (by simp) ?_
          refine AllReadyH.cons (o := _) rfl (fun K hK => ?_) ?_
          · go_simp
            refine hK.out _ _ ?_ (fun hHeld2 => ?_)
            · exact kg
            clear hK K hHeld
            have hHeld := hHeld2
            clear hHeld2
            try simp only [putA]
            refine wpAnyH_ready (rs := [9]) (by kernel_rfl) (by simp) ?_
            refine AllReadyH.cons (o := _) rfl (fun K hK => ?_) ?_
            · go_simp
              refine hK.out _ _ ?_ (fun hHeld2 => ?_)
              · exact kg
              clear hK K hHeld
              have hHeld := hHeld2
              clear hHeld2
              try simp only [putA]
              refine wpAnyH_ready (rs := [10]) (by kernel_rfl) (by simp) ?_
              refine AllReadyH.cons (o := _) rfl (fun K hK => ?_) ?_
              · go_simp
                refine hK.out _ _ ?_ (fun hHeld2 => ?_)
                · exact kg
                clear hK K hHeld
                have hHeld := hHeld2
                clear hHeld2
                try simp only [putA]
                refine wpAnyH_done (by kernel_rfl) ?_ _
                (try go_wp2_with fail)
                go_meet
                exact ⟨_, rfl, rfl, by (intro o ho; rcases (show o = 0 ∨ o = 1 ∨ o = 2 ∨ o = 3 ∨ o = 4 ∨ o = 5 by omega) with rfl | rfl | rfl | rfl | rfl | rfl <;> (simp (maxDischargeDepth := 8) [go_sem, kp, *])), by (first | omega | (simp [ext_size, World.setCell] <;> omega)), by (first | omega | (simp [ext_size, World.setCell] <;> omega)), kg⟩
              exact AllReadyH.nil
            exact AllReadyH.nil
          exact AllReadyH.nil
        refine AllReadyH.cons (o := _) rfl (fun K hK => ?_) ?_
        · go_simp
          refine hK.out _ _ ?_ (fun hHeld2 => ?_)
          · exact kg
          clear hK K hHeld
          have hHeld := hHeld2
          clear hHeld2
          try simp only [putA]
          refine wpAnyH_ready (rs := [4]) (by kernel_rfl) (by simp) ?_
          refine AllReadyH.cons (o := _) rfl (fun K hK => ?_) ?_
          · go_simp
            with_reducible refine (CX _).mono ?_
            rintro e w' ⟨rfl, hb⟩
            obtain ⟨l9, d9, rfl⟩ := toExt hb
            clear hb
            (try go_wp2_with fail)
            refine hK.out _ _ ?_ (fun hHeld2 => ?_)
            · exact kg
            clear hK K hHeld
            have hHeld := hHeld2
            clear hHeld2
            try simp only [putA]
            refine wpAnyH_take (i := 5) (oi := _) (v := ?_) rfl (by kernel_rfl) (by kernel_rfl) (by kernel_rfl) (fun _ _ _ h => h) (Or.inl ⟨by rfl, ?_⟩) (by assumption) ?_
            rotate_left
            · (intro w hSw; (try dsimp only at hSw); go_simp; (try with_reducible rfl))
            try simp only [putA]
            refine wpAnyH_take (i := 6) (oi := _) (v := ?_) rfl (by kernel_rfl) (by kernel_rfl) (by kernel_rfl) (fun _ _ _ h => h) (Or.inl ⟨by rfl, ?_⟩) (by assumption) ?_
            rotate_left
            · (intro w hSw; (try dsimp only at hSw); go_simp; (try with_reducible rfl))
            try simp only [putA]
            refine wpAnyH_take (i := 7) (oi := _) (v := ?_) rfl (by kernel_rfl) (by kernel_rfl) (by kernel_rfl) (fun _ _ _ h => h) (Or.inl ⟨by rfl, ?_⟩) (by assumption) ?_
            rotate_left
            · (intro w hSw; (try dsimp only at hSw); go_simp; (try with_reducible rfl))
            try simp only [putA]
            refine wpAnyH_ready (rs := [9]) (by kernel_rfl) (by simp) ?_
            refine AllReadyH.cons (o := _) rfl (fun K hK => ?_) ?_
            · go_simp
              refine hK.out _ _ ?_ (fun hHeld2 => ?_)
              · exact kg
              clear hK K hHeld
              have hHeld := hHeld2
              clear hHeld2
              try simp only [putA]
              refine wpAnyH_ready (rs := [10]) (by kernel_rfl) (by simp) ?_
              refine AllReadyH.cons (o := _) rfl (fun K hK => ?_) ?_
              · go_simp
                refine hK.out _ _ ?_ (fun hHeld2 => ?_)
                · exact kg
                clear hK K hHeld
                have hHeld := hHeld2
                clear hHeld2
                try simp only [putA]
                refine wpAnyH_done (by kernel_rfl) ?_ _
                (try go_wp2_with fail)
                go_meet
                exact ⟨_, rfl, rfl, by (intro o ho; rcases (show o = 0 ∨ o = 1 ∨ o = 2 ∨ o = 3 ∨ o = 4 ∨ o = 5 by omega) with rfl | rfl | rfl | rfl | rfl | rfl <;> (simp (maxDischargeDepth := 8) [go_sem, kp, *])), by (first | omega | (simp [ext_size, World.setCell] <;> omega)), by (first | omega | (simp [ext_size, World.setCell] <;> omega)), kg⟩
              exact AllReadyH.nil
            exact AllReadyH.nil
          exact AllReadyH.nil
        exact AllReadyH.nil
      refine AllReadyH.cons (o := _) rfl (fun K hK => ?_) ?_
      · go_simp
        refine hK.out _ _ ?_ (fun hHeld2 => ?_)
        · exact kg
        clear hK K hHeld
        have hHeld := hHeld2
        clear hHeld2
        try simp only [putA]
        refine wpAnyH_ready (rs := [3]) (by kernel_rfl) (by simp) ?_
        refine AllReadyH.cons (o := _) rfl (fun K hK => ?_) ?_
        · go_simp
          with_reducible refine (R2 _).mono ?_
          rintro e w' ⟨rfl, hb⟩
          obtain ⟨l9, d9, rfl⟩ := toExt hb
          clear hb
          (try go_wp2_with fail)
          refine hK.out _ _ ?_ (fun hHeld2 => ?_)
          · exact kg
          clear hK K hHeld
          have hHeld := hHeld2
          clear hHeld2
          try simp only [putA]
          refine wpAnyH_ready (rs := [4]) (by kernel_rfl) (by simp) ?_
          refine AllReadyH.cons (o := _) rfl (fun K hK => ?_) ?_
          · go_simp
            with_reducible refine (CX _).mono ?_
            rintro e w' ⟨rfl, hb⟩
            obtain ⟨l9, d9, rfl⟩ := toExt hb
            clear hb
            (try go_wp2_with fail)
            refine hK.out _ _ ?_ (fun hHeld2 => ?_)
            · exact kg
            clear hK K hHeld
            have hHeld := hHeld2
            clear hHeld2
            try simp only [putA]
            refine wpAnyH_take (i := 5) (oi := _) (v := ?_) rfl (by kernel_rfl) (by kernel_rfl) (by kernel_rfl) (fun _ _ _ h => h) (Or.inl ⟨by rfl, ?_⟩) (by assumption) ?_
            rotate_left
            · (intro w hSw; (try dsimp only at hSw); go_simp; (try with_reducible rfl))
            try simp only [putA]
            refine wpAnyH_take (i := 6) (oi := _) (v := ?_) rfl (by kernel_rfl) (by kernel_rfl) (by kernel_rfl) (fun _ _ _ h => h) (Or.inl ⟨by rfl, ?_⟩) (by assumption) ?_
            rotate_left
            · (intro w hSw; (try dsimp only at hSw); go_simp; (try with_reducible rfl))
            try simp only [putA]
            refine wpAnyH_take (i := 7) (oi := _) (v := ?_) rfl (by kernel_rfl) (by kernel_rfl) (by kernel_rfl) (fun _ _ _ h => h) (Or.inl ⟨by rfl, ?_⟩) (by assumption) ?_
            rotate_left
            · (intro w hSw; (try dsimp only at hSw); go_simp; (try with_reducible rfl))
            try simp only [putA]
            refine wpAnyH_ready (rs := [9]) (by kernel_rfl) (by simp) ?_
            refine AllReadyH.cons (o := _) rfl (fun K hK => ?_) ?_
            · go_simp
              refine hK.out _ _ ?_ (fun hHeld2 => ?_)
              · exact kg
              clear hK K hHeld
              have hHeld := hHeld2
              clear hHeld2
              try simp only [putA]
              refine wpAnyH_ready (rs := [10]) (by kernel_rfl) (by simp) ?_
              refine AllReadyH.cons (o := _) rfl (fun K hK => ?_) ?_
              · go_simp
                refine hK.out _ _ ?_ (fun hHeld2 => ?_)
                · exact kg
                clear hK K hHeld
                have hHeld := hHeld2
                clear hHeld2
                try simp only [putA]
                refine wpAnyH_done (by kernel_rfl) ?_ _
                (try go_wp2_with fail)
                go_meet
                exact ⟨_, rfl, rfl, by (intro o ho; rcases (show o = 0 ∨ o = 1 ∨ o = 2 ∨ o = 3 ∨ o = 4 ∨ o = 5 by omega) with rfl | rfl | rfl | rfl | rfl | rfl <;> (simp (maxDischargeDepth := 8) [go_sem, kp, *])), by (first | omega | (simp [ext_size, World.setCell] <;> omega)), by (first | omega | (simp [ext_size, World.setCell] <;> omega)), kg⟩
              exact AllReadyH.nil
            exact AllReadyH.nil
          exact AllReadyH.nil
        exact AllReadyH.nil
      exact AllReadyH.nil
    refine AllReadyH.cons (o := _) rfl (fun K hK => ?_) ?_
    · go_simp
      refine hK.out _ _ ?_ (fun hHeld2 => ?_)
      · exact kg
      clear hK K hHeld
      have hHeld := hHeld2
      clear hHeld2
      try simp only [putA]
      refine wpAnyH_ready (rs := [1]) (by kernel_rfl) (by simp) ?_
      refine AllReadyH.cons (o := _) rfl (fun K hK => ?_) ?_
      · go_simp
        with_reducible refine (R1 _).mono ?_
        rintro e w' ⟨rfl, hb⟩
        obtain ⟨l9, d9, rfl⟩ := toExt hb
        clear hb
        (try go_wp2_with fail)
        refine hK.out _ _ ?_ (fun hHeld2 => ?_)
        · exact kg
        clear hK K hHeld
        have hHeld := hHeld2
        clear hHeld2
        try simp only [putA]
        refine wpAnyH_ready (rs := [3]) (by kernel_rfl) (by simp) ?_
        refine AllReadyH.cons (o := _) rfl (fun K hK => ?_) ?_
        · go_simp
          with_reducible refine (R2 _).mono ?_
          rintro e w' ⟨rfl, hb⟩
          obtain ⟨l9, d9, rfl⟩ := toExt hb
          clear hb
          (try go_wp2_with fail)
          refine hK.out _ _ ?_ (fun hHeld2 => ?_)
          · exact kg
          clear hK K hHeld
          have hHeld := hHeld2
          clear hHeld2
          try simp only [putA]
          refine wpAnyH_ready (rs := [4]) (by kernel_rfl) (by simp) ?_
          refine AllReadyH.cons (o := _) rfl (fun K hK => ?_) ?_
          · go_simp
            with_reducible refine (CX _).mono ?_
            rintro e w' ⟨rfl, hb⟩
            obtain ⟨l9, d9, rfl⟩ := toExt hb
            clear hb
            (try go_wp2_with fail)
            refine hK.out _ _ ?_ (fun hHeld2 => ?_)
            · exact kg
            clear hK K hHeld
            have hHeld := hHeld2
            clear hHeld2
            try simp only [putA]
            refine wpAnyH_take (i := 5) (oi := _) (v := ?_) rfl (by kernel_rfl) (by kernel_rfl) (by kernel_rfl) (fun _ _ _ h => h) (Or.inl ⟨by rfl, ?_⟩) (by assumption) ?_
            rotate_left
            · (intro w hSw; (try dsimp only at hSw); go_simp; (try with_reducible rfl))
            try simp only [putA]
            refine wpAnyH_take (i := 6) (oi := _) (v := ?_) rfl (by kernel_rfl) (by kernel_rfl) (by kernel_rfl) (fun _ _ _ h => h) (Or.inl ⟨by rfl, ?_⟩) (by assumption) ?_
            rotate_left
            · (intro w hSw; (try dsimp only at hSw); go_simp; (try with_reducible rfl))
            try simp only [putA]
            refine wpAnyH_take (i := 7) (oi := _) (v := ?_) rfl (by kernel_rfl) (by kernel_rfl) (by kernel_rfl) (fun _ _ _ h => h) (Or.inl ⟨by rfl, ?_⟩) (by assumption) ?_
            rotate_left
            · (intro w hSw; (try dsimp only at hSw); go_simp; (try with_reducible rfl))
            try simp only [putA]
            refine wpAnyH_ready (rs := [9]) (by kernel_rfl) (by simp) ?_
            refine AllReadyH.cons (o := _) rfl (fun K hK => ?_) ?_
            · go_simp
              refine hK.out _ _ ?_ (fun hHeld2 => ?_)
              · exact kg
              clear hK K hHeld
              have hHeld := hHeld2
              clear hHeld2
              try simp only [putA]
              refine wpAnyH_ready (rs := [10]) (by kernel_rfl) (by simp) ?_
              refine AllReadyH.cons (o := _) rfl (fun K hK => ?_) ?_
              · go_simp
                refine hK.out _ _ ?_ (fun hHeld2 => ?_)
                · exact kg
                clear hK K hHeld
                have hHeld := hHeld2
                clear hHeld2
                try simp only [putA]
                refine wpAnyH_done (by kernel_rfl) ?_ _
                (try go_wp2_with fail)
                go_meet
                exact ⟨_, rfl, rfl, by (intro o ho; rcases (show o = 0 ∨ o = 1 ∨ o = 2 ∨ o = 3 ∨ o = 4 ∨ o = 5 by omega) with rfl | rfl | rfl | rfl | rfl | rfl <;> (simp (maxDischargeDepth := 8) [go_sem, kp, *])), by (first | omega | (simp [ext_size, World.setCell] <;> omega)), by (first | omega | (simp [ext_size, World.setCell] <;> omega)), kg⟩
              exact AllReadyH.nil
            exact AllReadyH.nil
          exact AllReadyH.nil
        exact AllReadyH.nil
      exact AllReadyH.nil
    exact AllReadyH.nil
  case rest =>
  obtain ⟨q, rfl, rfl, cX, yq, zq, hb⟩ := hcut
  replace cM := cs_below cM hb (by omega)
  replace k0 := (hb.cell (by omega)).trans k0
  replace k1 := (hb.cell (by omega)).trans k1
  replace f0 := (hb.frozen (by omega)).trans f0
  replace f1 := (hb.frozen (by omega)).trans f1
  replace HBa := HBa.trans (hb.mono (by omega))
  replace zs := Nat.lt_of_lt_of_le zs hb.size
  clear hb R1 R2 CX
  by_cases he : e0 = 0
  · have DD := HD.out he
    have hE := Lib.hid he
    have he1 : (e0 == 0) = true := by simp [he]
    clear he HD
    go_wp2_with fail
    refine wp_region_held_drew (S := (fun w' => Below (w.heap.size + 1) wc w' ∧ Cs w' q 6 X)) (by kernel_rfl) ?_ (fun hHeld => ?_)
    · exact ⟨Below.drew (Below.refl _ _), cX⟩
    refine take18 0 (.tmp 1) w.heap.size M rfl rfl (by kernel_rfl) (by kernel_rfl) (by kernel_rfl) (fun _ _ _ h => h) (by rfl) rfl (fun w k => cs_below cM k.1 (by omega)) (by assumption) ?_
    try simp only [putA]
    refine take6v 2 (.tmp 4) q X rfl rfl (by kernel_rfl) (by kernel_rfl) (by kernel_rfl) (fun _ _ _ h => h) (by rfl) rfl (fun w k => k.2) (by assumption) ?_
    try simp only [putA]
    refine wpAnyH_ready (rs := [1]) (by kernel_rfl) (by simp) ?_
    refine AllReadyH.cons (o := _) rfl (fun K hK => ?_) ?_
    · go_simp
      with_reducible refine (R0 _).mono ?_
      rintro e w' ⟨rfl, hb⟩
      obtain ⟨l9, d9, rfl⟩ := toExt hb
      clear hb
      (try go_wp2_with fail)
      refine hK.out _ _ ?_ (fun hHeld2 => ?_)
      · exact ⟨by (with_reducible repeat (first | exact hHeld.1 | exact Below.refl _ _ | refine bex ?_ _ _ | refine bdn ?_ _ | refine bdr ?_ | refine bala ?_ _ | refine bsea ?_ _)), kc⟩
      clear hK K hHeld
      have hHeld := hHeld2
      clear hHeld2
      try simp only [putA]
      refine wpAnyH_ready (rs := [3]) (by kernel_rfl) (by simp) ?_
      refine AllReadyH.cons (o := _) rfl (fun K hK => ?_) ?_
      · go_simp
        with_reducible refine (DD _).mono ?_
        rintro e w' ⟨rfl, hb⟩
        obtain ⟨l9, d9, rfl⟩ := toExt hb
        clear hb
        (try go_wp2_with fail)
        refine hK.out _ _ ?_ (fun hHeld2 => ?_)
        · exact ⟨by (with_reducible repeat (first | exact hHeld.1 | exact Below.refl _ _ | refine bex ?_ _ _ | refine bdn ?_ _ | refine bdr ?_ | refine bala ?_ _ | refine bsea ?_ _)), kc⟩
        clear hK K hHeld
        have hHeld := hHeld2
        clear hHeld2
        try simp only [putA]
        refine wpAnyH_take (i := 4) (oi := _) (v := ?_) rfl (by kernel_rfl) (by kernel_rfl) (by kernel_rfl) (fun _ _ _ h => h) (Or.inl ⟨by rfl, ?_⟩) (by assumption) ?_
        rotate_left
        · (intro w hSw; (try dsimp only at hSw); go_simp; (try with_reducible rfl))
        try simp only [putA]
        refine wpAnyH_take (i := 5) (oi := _) (v := ?_) rfl (by kernel_rfl) (by kernel_rfl) (by kernel_rfl) (fun _ _ _ h => h) (Or.inl ⟨by rfl, ?_⟩) (by assumption) ?_
        rotate_left
        · (intro w hSw; (try dsimp only at hSw); go_simp; (try with_reducible rfl))
        try simp only [putA]
        refine wpAnyH_ready (rs := [6]) (by kernel_rfl) (by simp) ?_
        refine AllReadyH.cons (o := _) rfl (fun K hK => ?_) ?_
        · go_simp
          refine hK.out _ _ ?_ (fun hHeld2 => ?_)
          · exact ⟨by (with_reducible repeat (first | exact hHeld.1 | exact Below.refl _ _ | refine bex ?_ _ _ | refine bdn ?_ _ | refine bdr ?_ | refine bala ?_ _ | refine bsea ?_ _)), kc⟩
          clear hK K hHeld
          have hHeld := hHeld2
          clear hHeld2
          try simp only [putA]
          refine wpAnyH_ready (rs := [7]) (by kernel_rfl) (by simp) ?_
          refine AllReadyH.cons (o := _) rfl (fun K hK => ?_) ?_
          · go_simp
            refine hK.out _ _ ?_ (fun hHeld2 => ?_)
            · exact ⟨by (with_reducible repeat (first | exact hHeld.1 | exact Below.refl _ _ | refine bex ?_ _ _ | refine bdn ?_ _ | refine bdr ?_ | refine bala ?_ _ | refine bsea ?_ _)), kc⟩
            clear hK K hHeld
            have hHeld := hHeld2
            clear hHeld2
            try simp only [putA]
            refine wpAnyH_done (by kernel_rfl) ?_ _
            (try go_wp2)
            refine bodyPost_ret (by simp [results, Try.results26, go_sem, ext_cell, kp, *]; try rfl) rfl ?_
            exact ⟨by rw [← HZ1.out, ← HZ2.out, ← HZ3.out, if_pos hE.out, if_pos hE.out, if_pos hE.out], Below.trans HBa (Below.mono hHeld.1 (by omega))⟩
          exact AllReadyH.nil
        exact AllReadyH.nil
      exact AllReadyH.nil
    exact AllReadyH.nil
  · have hE := Lib.hid he
    have he1 : (e0 == 0) = false := by simp [he]
    clear he HD
    go_wp2
    refine bodyPost_ret (by simp [results, Try.results26, go_sem, ext_cell, kp, *]; try rfl) rfl ?_
    exact ⟨by rw [← HZ1.out, ← HZ2.out, ← HZ3.out, if_neg hE.out, if_neg hE.out, if_neg hE.out], kb⟩
end Go.Proofs.Ytlijkebdaalldaa
