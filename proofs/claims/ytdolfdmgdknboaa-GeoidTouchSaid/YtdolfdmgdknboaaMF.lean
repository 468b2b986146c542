/-
  The first error of many.  Package vec: products of matrices.  Package vec: products of each row of a matrix and each row of another one.  Worlds that part in one block alone.
-/
import Derived.Test.YtdolfdmgdknboaaKu
import Derived.Test.YtdolfdmgdknboaaMA
import Derived.Lib.Hide
namespace Go.Proofs.Ytdolfdmgdknboaa
set_option linter.unusedVariables false
/-- The first error of many. -/
def feI (E : Nat → Int) : Nat → Int
  | 0 => 0
  | n + 1 => if feI E n = 0 then E n else feI E n
theorem feI_next {E : Nat → Int} {n : Nat} (h : feI E n = 0) (k : E n = 0) : feI E (n + 1) = 0 := by rw [feI, if_pos h]; exact k
theorem feI_stop {E : Nat → Int} {n : Nat} (h : feI E n = 0) (k : ¬ E n = 0) : ∀ m, feI E (n + 1 + m) = E n
  | 0 => by rw [Nat.add_zero, feI, if_pos h]
  | m + 1 => by
    have := feI_stop h k m
    rw [show n + 1 + (m + 1) = (n + 1 + m) + 1 from rfl, feI, this, if_neg k]
/-- What is returned with the first error of nine. -/
def prR (E P : Nat → Int) : Nat → Int := fun o => vz (feI E 9) (P o)
end Go.Proofs.Ytdolfdmgdknboaa
namespace Go.Proofs.Ytdolfdmgdknboaa
open Go.RowKit
set_option linter.unusedVariables false
set_option linter.unusedSimpArgs false

set_option maxRecDepth 100000 in
set_option maxHeartbeats 6400000 in
theorem vec_prod_ok (M N R : Nat → Int) (e0 : Int) (DT : ∀ w : World, Calls Try.prog 53 #[.agg #[.int .i64 (M 0), .int .i64 (M 1), .int .i64 (M 2), .int .i64 (M 3), .int .i64 (M 4), .int .i64 (M 5), .int .i64 (M 6), .int .i64 (M 7), .int .i64 (M 8), .int .i64 (M 9), .int .i64 (M 10), .int .i64 (M 11), .int .i64 (M 12), .int .i64 (M 13), .int .i64 (M 14), .int .i64 (M 15), .int .i64 (M 16), .int .i64 (M 17)], .agg #[.int .i64 ((fpP N) 0), .int .i64 ((fpP N) 1), .int .i64 ((fpP N) 2), .int .i64 ((fpP N) 3), .int .i64 ((fpP N) 4), .int .i64 ((fpP N) 5), .int .i64 ((fpP N) 6), .int .i64 ((fpP N) 7), .int .i64 ((fpP N) 8), .int .i64 ((fpP N) 9), .int .i64 ((fpP N) 10), .int .i64 ((fpP N) 11), .int .i64 ((fpP N) 12), .int .i64 ((fpP N) 13), .int .i64 ((fpP N) 14), .int .i64 ((fpP N) 15), .int .i64 ((fpP N) 16), .int .i64 ((fpP N) 17)]] w fun x w' => x = .returned (.tuple #[.agg #[.int .i64 (R 0), .int .i64 (R 1), .int .i64 (R 2), .int .i64 (R 3), .int .i64 (R 4), .int .i64 (R 5), .int .i64 (R 6), .int .i64 (R 7), .int .i64 (R 8), .int .i64 (R 9), .int .i64 (R 10), .int .i64 (R 11), .int .i64 (R 12), .int .i64 (R 13), .int .i64 (R 14), .int .i64 (R 15), .int .i64 (R 16), .int .i64 (R 17)], .int .i64 e0]) ∧ Below w.heap.size w w')
    (CK : ∀ (W : World) (g cap : Nat), g < W.heap.size → (∀ o, o < 36 → W.cell? ⟨g, o, none⟩ = some (.int .i64 (if o < 18 then M o else N (o - 18)))) → Calls Try.prog 45 #[.slice (some ⟨g, 0, none⟩) 6 cap] W fun x w' => x = .returned (.int .i64 0) ∧ Below W.heap.size W w') (w : World) :
    Calls Try.prog 12 #[.agg #[.int .i64 (M 0), .int .i64 (M 1), .int .i64 (M 2), .int .i64 (M 3), .int .i64 (M 4), .int .i64 (M 5), .int .i64 (M 6), .int .i64 (M 7), .int .i64 (M 8), .int .i64 (M 9), .int .i64 (M 10), .int .i64 (M 11), .int .i64 (M 12), .int .i64 (M 13), .int .i64 (M 14), .int .i64 (M 15), .int .i64 (M 16), .int .i64 (M 17)], .agg #[.int .i64 (N 0), .int .i64 (N 1), .int .i64 (N 2), .int .i64 (N 3), .int .i64 (N 4), .int .i64 (N 5), .int .i64 (N 6), .int .i64 (N 7), .int .i64 (N 8), .int .i64 (N 9), .int .i64 (N 10), .int .i64 (N 11), .int .i64 (N 12), .int .i64 (N 13), .int .i64 (N 14), .int .i64 (N 15), .int .i64 (N 16), .int .i64 (N 17)]] w fun x w' => x = .returned (.tuple #[.agg #[.int .i64 (R 0), .int .i64 (R 1), .int .i64 (R 2), .int .i64 (R 3), .int .i64 (R 4), .int .i64 (R 5), .int .i64 (R 6), .int .i64 (R 7), .int .i64 (R 8), .int .i64 (R 9), .int .i64 (R 10), .int .i64 (R 11), .int .i64 (R 12), .int .i64 (R 13), .int .i64 (R 14), .int .i64 (R 15), .int .i64 (R 16), .int .i64 (R 17)], .int .i64 e0]) ∧ Below w.heap.size w w' := by
  have xR := xRul
  have dz1 := dzA
  have dz2 := dzB
  go_enter Try.func12, Try.ntmps12
  go_upto_region 1 with fail
  refine opq (fun wx => Cs wx w.heap.size 18 M ∧ Cs wx (w.heap.size + 1) 18 N ∧ Cs wx (w.heap.size + 1 + 1) 18 (fun _ => 0) ∧ Fs wx (w.heap.size + 1 + 1) 18 ∧ w.heap.size + 1 + 1 < wx.heap.size ∧ Below w.heap.size w wx) ?_ ?_
  · exact ⟨cs_alloc _ (cs_alloc _ (cs_new rfl (arrM M)) (by simp)) (by simp <;> omega), cs_alloc _ (cs_new (by simp) (arrM N)) (by simp), cs_new (by simp) arr0, fs_new (by simp), by simp, kb⟩
  rintro wa ⟨cM, cN, cR, fR, zs, HBa⟩
  refine wp_region_held_drew (S := (fun w' => Below wa.heap.size wa w')) (by kernel_rfl) ?_ (fun hHeld => ?_)
  · exact Below.drew (Below.refl _ _)
  refine wpAnyH_take (i := 0) (oi := _) (v := ?_) rfl (by kernel_rfl) (by kernel_rfl) (by kernel_rfl) (fun _ _ _ h => h) (Or.inl ⟨by rfl, ?_⟩) (by assumption) ?_
  rotate_left
  · (intro w hSw; (try dsimp only at hSw); go_simp; (try with_reducible rfl))
  try simp only [putA]
  refine wpAnyH_take (i := 1) (oi := _) (v := ?_) rfl (by kernel_rfl) (by kernel_rfl) (by kernel_rfl) (fun _ _ _ h => h) (Or.inl ⟨by rfl, ?_⟩) (by assumption) ?_
  rotate_left
  · (intro w hSw; (try dsimp only at hSw); go_simp; (try with_reducible rfl))
  try simp only [putA]
  refine wpAnyH_ready (rs := [2]) (by kernel_rfl) (by simp) ?_
  refine AllReadyH.cons (o := _) rfl (fun K hK => ?_) ?_
  · refine step_rows (.tmp 7) (.tmp 8) w.heap.size (w.heap.size + 1) 3 3 M N rfl rfl rfl rfl (by omega) (by omega) cM cN ?_
    intro g cap w5 hb5 zg hG
    refine hK.out _ _ ?_ (fun hHeld2 => ?_)
    · first | exact bsub (Below.drew (Below.refl _ _)) hb5 (Nat.le_refl _) | exact bsub hHeld hb6 hHeld.size | exact hHeld
    clear hK K hHeld
    have hHeld := hHeld2
    clear hHeld2
    try simp only [putA]
    refine wpAnyH_ready (rs := [3]) (by kernel_rfl) (by simp) ?_
    refine AllReadyH.cons (o := _) rfl (fun K hK => ?_) ?_
    · go_simp
      with_reducible refine (CK _ g cap zg (fun o ho => hG o (by omega))).mono ?_
      rintro e w6 ⟨rfl, hb6⟩
      (try go_wp2_with fail)
      refine hK.out _ _ ?_ (fun hHeld2 => ?_)
      · first | exact bsub (Below.drew (Below.refl _ _)) hb5 (Nat.le_refl _) | exact bsub hHeld hb6 hHeld.size | exact hHeld
      clear hK K hHeld
      have hHeld := hHeld2
      clear hHeld2
      try simp only [putA]
      refine wpAnyH_ready (rs := [4]) (by kernel_rfl) (by simp) ?_
      refine AllReadyH.cons (o := _) rfl (fun K hK => ?_) ?_
      · go_simp
        refine hK.out _ _ ?_ (fun hHeld2 => ?_)
        · first | exact bsub (Below.drew (Below.refl _ _)) hb5 (Nat.le_refl _) | exact bsub hHeld hb6 hHeld.size | exact hHeld
        clear hK K hHeld
        have hHeld := hHeld2
        clear hHeld2
        try simp only [putA]
        refine wpAnyH_done (by kernel_rfl) ?_ _
        have hb := hHeld
        clear hHeld hG hb5 hb6 zg
        replace cM := cs_below cM hb (by omega)
        replace cN := cs_below cN hb (by omega)
        replace cR := cs_below cR hb (by omega)
        replace fR := fs_below fR hb (by omega)
        replace HBa := HBa.trans (hb.mono (by omega))
        replace zs := Nat.lt_of_lt_of_le zs hb.size
        clear hb CK
        go_wp2_with fail
        refine wp_region_held_drew (S := (fun w' => Below (w.heap.size + 1 + 1) w6 w')) (by kernel_rfl) ?_ (fun hHeld => ?_)
        · exact Below.drew (Below.refl _ _)
        refine take18 0 (.tmp 2) w.heap.size M rfl rfl (by kernel_rfl) (by kernel_rfl) (by kernel_rfl) (fun _ _ _ h => h) (by rfl) rfl (fun w k => cs_below cM k (by omega)) (by assumption) ?_
        try simp only [putA]
        refine take18 1 (.tmp 3) (w.heap.size + 1) N rfl rfl (by kernel_rfl) (by kernel_rfl) (by kernel_rfl) (fun _ _ _ h => h) (by rfl) rfl (fun w k => cs_below cN k (by omega)) (by assumption) ?_
        try simp only [putA]
        refine wpAnyH_ready (rs := [2]) (by kernel_rfl) (by simp) ?_
        refine AllReadyH.cons (o := _) rfl (fun K hK => ?_) ?_
        · go_simp
          with_reducible refine (vec_flip N _).mono ?_
          rintro e w' ⟨rfl, hb⟩
          obtain ⟨l9, d9, rfl⟩ := toExt hb
          clear hb
          (try go_wp2_with fail)
          refine hK.out _ _ ?_ (fun hHeld2 => ?_)
          · first | exact HBy | (with_reducible repeat (first | exact hHeld | exact Below.refl _ _ | refine bex ?_ _ _ | refine bdn ?_ _ | refine bdr ?_ | refine bala ?_ _ | refine bsea ?_ _))
          clear hK K hHeld
          have hHeld := hHeld2
          clear hHeld2
          try simp only [putA]
          refine wpAnyH_ready (rs := [3]) (by kernel_rfl) (by simp) ?_
          refine AllReadyH.cons (o := _) rfl (fun K hK => ?_) ?_
          · go_simp
            with_reducible refine (DT _).mono ?_
            rintro e w' ⟨rfl, hb⟩
            obtain ⟨l8, d8, rfl⟩ := toExt hb
            clear hb
            (try go_wp2_with fail)
            refine hK.out _ _ ?_ (fun hHeld2 => ?_)
            · first | exact HBy | (with_reducible repeat (first | exact hHeld | exact Below.refl _ _ | refine bex ?_ _ _ | refine bdn ?_ _ | refine bdr ?_ | refine bala ?_ _ | refine bsea ?_ _))
            clear hK K hHeld
            have hHeld := hHeld2
            clear hHeld2
            try simp only [putA]
            refine wpAnyH_take (i := 4) (oi := _) (v := ?_) rfl (by kernel_rfl) (by kernel_rfl) (by kernel_rfl) (fun _ _ _ h => h) (Or.inl ⟨by rfl, ?_⟩) (by assumption) ?_
            rotate_left
            · (intro w hSw; (try dsimp only at hSw); go_simp; (try with_reducible rfl))
            try simp only [putA]
            refine wpAnyH_take (i := 5) (oi := _) (v := ?_) rfl (by kernel_rfl) (by kernel_rfl) (by kernel_rfl) (fun _ _ _ h => h) (Or.inl ⟨by rfl, ?_⟩) (by assumption) ?_
            rotate_left
            · (intro w hSw; (try dsimp only at hSw); go_simp; (try with_reducible rfl))
            try simp only [putA]
            refine wpAnyH_ready (rs := [6]) (by kernel_rfl) (by simp) ?_
            refine AllReadyH.cons (o := _) rfl (fun K hK => ?_) ?_
            · refine store18r (.tmp 4) (.tmp 19) (w.heap.size + 1 + 1) R (fun _ => 0) (kc) (kf) (by kernel_rfl) rfl rfl rfl ?_
              intro wx cX fX sX bX
              have HBx := bX w.heap.size w (by omega) (kg)
              have HBy := bX (w.heap.size + 1 + 1) w6 (by omega) (kg)
              refine hK.out _ _ ?_ (fun hHeld2 => ?_)
              · first | exact HBy | (with_reducible repeat (first | exact hHeld | exact Below.refl _ _ | refine bex ?_ _ _ | refine bdn ?_ _ | refine bdr ?_ | refine bala ?_ _ | refine bsea ?_ _))
              clear hK K hHeld
              have hHeld := hHeld2
              clear hHeld2
              try simp only [putA]
              refine wpAnyH_ready (rs := [7]) (by kernel_rfl) (by simp) ?_
              refine AllReadyH.cons (o := _) rfl (fun K hK => ?_) ?_
              · go_simp
                refine hK.out _ _ ?_ (fun hHeld2 => ?_)
                · first | exact HBy | (with_reducible repeat (first | exact hHeld | exact Below.refl _ _ | refine bex ?_ _ _ | refine bdn ?_ _ | refine bdr ?_ | refine bala ?_ _ | refine bsea ?_ _))
                clear hK K hHeld
                have hHeld := hHeld2
                clear hHeld2
                try simp only [putA]
                refine wpAnyH_done (by kernel_rfl) ?_ _
                (try go_wp2)
                refine bodyPost_ret (res_mat2 (v := .int .i64 e0) Try.results12 rfl rfl cX) rfl ?_
                exact ⟨rfl, HBx⟩
              exact AllReadyH.nil
            exact AllReadyH.nil
          exact AllReadyH.nil
        exact AllReadyH.nil
      exact AllReadyH.nil
    exact AllReadyH.nil
  exact AllReadyH.nil

set_option maxRecDepth 100000 in
set_option maxHeartbeats 6400000 in
theorem vec_prod_bad (M N : Nat → Int)
    (CK : ∀ (W : World) (g cap : Nat), g < W.heap.size → (∀ o, o < 36 → W.cell? ⟨g, o, none⟩ = some (.int .i64 (if o < 18 then M o else N (o - 18)))) → Calls Try.prog 45 #[.slice (some ⟨g, 0, none⟩) 6 cap] W fun x w' => x = .returned (.int .i64 8) ∧ Below W.heap.size W w') (w : World) :
    Calls Try.prog 12 #[.agg #[.int .i64 (M 0), .int .i64 (M 1), .int .i64 (M 2), .int .i64 (M 3), .int .i64 (M 4), .int .i64 (M 5), .int .i64 (M 6), .int .i64 (M 7), .int .i64 (M 8), .int .i64 (M 9), .int .i64 (M 10), .int .i64 (M 11), .int .i64 (M 12), .int .i64 (M 13), .int .i64 (M 14), .int .i64 (M 15), .int .i64 (M 16), .int .i64 (M 17)], .agg #[.int .i64 (N 0), .int .i64 (N 1), .int .i64 (N 2), .int .i64 (N 3), .int .i64 (N 4), .int .i64 (N 5), .int .i64 (N 6), .int .i64 (N 7), .int .i64 (N 8), .int .i64 (N 9), .int .i64 (N 10), .int .i64 (N 11), .int .i64 (N 12), .int .i64 (N 13), .int .i64 (N 14), .int .i64 (N 15), .int .i64 (N 16), .int .i64 (N 17)]] w fun x w' => x = .returned (.tuple #[.agg #[.int .i64 ((fun _ => 0) 0), .int .i64 ((fun _ => 0) 1), .int .i64 ((fun _ => 0) 2), .int .i64 ((fun _ => 0) 3), .int .i64 ((fun _ => 0) 4), .int .i64 ((fun _ => 0) 5), .int .i64 ((fun _ => 0) 6), .int .i64 ((fun _ => 0) 7), .int .i64 ((fun _ => 0) 8), .int .i64 ((fun _ => 0) 9), .int .i64 ((fun _ => 0) 10), .int .i64 ((fun _ => 0) 11), .int .i64 ((fun _ => 0) 12), .int .i64 ((fun _ => 0) 13), .int .i64 ((fun _ => 0) 14), .int .i64 ((fun _ => 0) 15), .int .i64 ((fun _ => 0) 16), .int .i64 ((fun _ => 0) 17)], .int .i64 8]) ∧ Below w.heap.size w w' := by
  have xR := xRul
  have dz1 := dzA
  have dz2 := dzB
  go_enter Try.func12, Try.ntmps12
  go_upto_region 1 with fail
  refine opq (fun wx => Cs wx w.heap.size 18 M ∧ Cs wx (w.heap.size + 1) 18 N ∧ Cs wx (w.heap.size + 1 + 1) 18 (fun _ => 0) ∧ Fs wx (w.heap.size + 1 + 1) 18 ∧ w.heap.size + 1 + 1 < wx.heap.size ∧ Below w.heap.size w wx) ?_ ?_
  · exact ⟨cs_alloc _ (cs_alloc _ (cs_new rfl (arrM M)) (by simp)) (by simp <;> omega), cs_alloc _ (cs_new (by simp) (arrM N)) (by simp), cs_new (by simp) arr0, fs_new (by simp), by simp, kb⟩
  rintro wa ⟨cM, cN, cR, fR, zs, HBa⟩
  refine wp_region_held_drew (S := (fun w' => Below wa.heap.size wa w')) (by kernel_rfl) ?_ (fun hHeld => ?_)
  · exact Below.drew (Below.refl _ _)
  refine wpAnyH_take (i := 0) (oi := _) (v := ?_) rfl (by kernel_rfl) (by kernel_rfl) (by kernel_rfl) (fun _ _ _ h => h) (Or.inl ⟨by rfl, ?_⟩) (by assumption) ?_
  rotate_left
  · (intro w hSw; (try dsimp only at hSw); go_simp; (try with_reducible rfl))
  try simp only [putA]
  refine wpAnyH_take (i := 1) (oi := _) (v := ?_) rfl (by kernel_rfl) (by kernel_rfl) (by kernel_rfl) (fun _ _ _ h => h) (Or.inl ⟨by rfl, ?_⟩) (by assumption) ?_
  rotate_left
  · (intro w hSw; (try dsimp only at hSw); go_simp; (try with_reducible rfl))
  try simp only [putA]
  refine wpAnyH_ready (rs := [2]) (by kernel_rfl) (by simp) ?_
  refine AllReadyH.cons (o := _) rfl (fun K hK => ?_) ?_
  · refine step_rows (.tmp 7) (.tmp 8) w.heap.size (w.heap.size + 1) 3 3 M N rfl rfl rfl rfl (by omega) (by omega) cM cN ?_
    intro g cap w5 hb5 zg hG
    refine hK.out _ _ ?_ (fun hHeld2 => ?_)
    · first | exact bsub (Below.drew (Below.refl _ _)) hb5 (Nat.le_refl _) | exact bsub hHeld hb6 hHeld.size | exact hHeld
    clear hK K hHeld
    have hHeld := hHeld2
    clear hHeld2
    try simp only [putA]
    refine wpAnyH_ready (rs := [3]) (by kernel_rfl) (by simp) ?_
    refine AllReadyH.cons (o := _) rfl (fun K hK => ?_) ?_
    · go_simp
      with_reducible refine (CK _ g cap zg (fun o ho => hG o (by omega))).mono ?_
      rintro e w6 ⟨rfl, hb6⟩
      (try go_wp2_with fail)
      refine hK.out _ _ ?_ (fun hHeld2 => ?_)
      · first | exact bsub (Below.drew (Below.refl _ _)) hb5 (Nat.le_refl _) | exact bsub hHeld hb6 hHeld.size | exact hHeld
      clear hK K hHeld
      have hHeld := hHeld2
      clear hHeld2
      try simp only [putA]
      refine wpAnyH_ready (rs := [4]) (by kernel_rfl) (by simp) ?_
      refine AllReadyH.cons (o := _) rfl (fun K hK => ?_) ?_
      · go_simp
        refine hK.out _ _ ?_ (fun hHeld2 => ?_)
        · first | exact bsub (Below.drew (Below.refl _ _)) hb5 (Nat.le_refl _) | exact bsub hHeld hb6 hHeld.size | exact hHeld
        clear hK K hHeld
        have hHeld := hHeld2
        clear hHeld2
        try simp only [putA]
        refine wpAnyH_done (by kernel_rfl) ?_ _
        have hb := hHeld
        clear hHeld hG hb5 hb6 zg
        replace cM := cs_below cM hb (by omega)
        replace cN := cs_below cN hb (by omega)
        replace cR := cs_below cR hb (by omega)
        replace fR := fs_below fR hb (by omega)
        replace HBa := HBa.trans (hb.mono (by omega))
        replace zs := Nat.lt_of_lt_of_le zs hb.size
        clear hb CK
        go_upto_region 3 with fail
        go_step
        refine wpList_plain rfl (fun K hK => ?_)
        go_big_op
        refine hK _ _ ?_
        clear hK K
        refine wpList_plain rfl (fun K hK => ?_)
        go_big_op
        refine hK _ _ ?_
        clear hK K
        refine store18 (.tmp 4) (.tmp 13) (w.heap.size + 1 + 1) (fun _ => 0) (fun _ => 0) cR fR rfl rfl rfl rfl ?_
        intro wx cX fX sX bX
        have HBx := bX w.heap.size w (by omega) HBa
        clear cR fR HBa bX fX sX cM cN
        go_wp2
        refine bodyPost_ret (res_mat2 (v := .int .i64 8) Try.results12 rfl rfl cX) rfl ?_
        exact ⟨rfl, HBx⟩
      exact AllReadyH.nil
    exact AllReadyH.nil
  exact AllReadyH.nil

end Go.Proofs.Ytdolfdmgdknboaa
namespace Go.Proofs.Ytdolfdmgdknboaa
open Go.RowKit
set_option linter.unusedVariables false
set_option linter.unusedSimpArgs false

def dtsN (P : Nat → Int) (i : Nat) : Nat → Int := fun o => if o / 6 < i then P o else 0
def dtsR (E P : Nat → Int) : Nat → Int := fun o => vz (feI E 3) (P o)

set_option maxRecDepth 100000 in
set_option maxHeartbeats 16000000 in
theorem vec_dots (M N P E : Nat → Int)
    (A0 : ∀ w : World, Calls Try.prog 47 #[.agg #[.int .i64 (N 0), .int .i64 (N 1), .int .i64 (N 2), .int .i64 (N 3), .int .i64 (N 4), .int .i64 (N 5), .int .i64 (N 6), .int .i64 (N 7), .int .i64 (N 8), .int .i64 (N 9), .int .i64 (N 10), .int .i64 (N 11), .int .i64 (N 12), .int .i64 (N 13), .int .i64 (N 14), .int .i64 (N 15), .int .i64 (N 16), .int .i64 (N 17)], .agg #[.int .i64 (M 0), .int .i64 (M 1), .int .i64 (M 2), .int .i64 (M 3), .int .i64 (M 4), .int .i64 (M 5)]] w fun x w' => x = .returned (.tuple #[.agg #[.int .i64 (P 0), .int .i64 (P 1), .int .i64 (P 2), .int .i64 (P 3), .int .i64 (P 4), .int .i64 (P 5)], .int .i64 (E 0)]) ∧ Below w.heap.size w w')
    (A1 : ∀ w : World, Calls Try.prog 47 #[.agg #[.int .i64 (N 0), .int .i64 (N 1), .int .i64 (N 2), .int .i64 (N 3), .int .i64 (N 4), .int .i64 (N 5), .int .i64 (N 6), .int .i64 (N 7), .int .i64 (N 8), .int .i64 (N 9), .int .i64 (N 10), .int .i64 (N 11), .int .i64 (N 12), .int .i64 (N 13), .int .i64 (N 14), .int .i64 (N 15), .int .i64 (N 16), .int .i64 (N 17)], .agg #[.int .i64 (M 6), .int .i64 (M 7), .int .i64 (M 8), .int .i64 (M 9), .int .i64 (M 10), .int .i64 (M 11)]] w fun x w' => x = .returned (.tuple #[.agg #[.int .i64 (P 6), .int .i64 (P 7), .int .i64 (P 8), .int .i64 (P 9), .int .i64 (P 10), .int .i64 (P 11)], .int .i64 (E 1)]) ∧ Below w.heap.size w w')
    (A2 : ∀ w : World, Calls Try.prog 47 #[.agg #[.int .i64 (N 0), .int .i64 (N 1), .int .i64 (N 2), .int .i64 (N 3), .int .i64 (N 4), .int .i64 (N 5), .int .i64 (N 6), .int .i64 (N 7), .int .i64 (N 8), .int .i64 (N 9), .int .i64 (N 10), .int .i64 (N 11), .int .i64 (N 12), .int .i64 (N 13), .int .i64 (N 14), .int .i64 (N 15), .int .i64 (N 16), .int .i64 (N 17)], .agg #[.int .i64 (M 12), .int .i64 (M 13), .int .i64 (M 14), .int .i64 (M 15), .int .i64 (M 16), .int .i64 (M 17)]] w fun x w' => x = .returned (.tuple #[.agg #[.int .i64 (P 12), .int .i64 (P 13), .int .i64 (P 14), .int .i64 (P 15), .int .i64 (P 16), .int .i64 (P 17)], .int .i64 (E 2)]) ∧ Below w.heap.size w w')
    (w : World) :
    Calls Try.prog 53 #[.agg #[.int .i64 (M 0), .int .i64 (M 1), .int .i64 (M 2), .int .i64 (M 3), .int .i64 (M 4), .int .i64 (M 5), .int .i64 (M 6), .int .i64 (M 7), .int .i64 (M 8), .int .i64 (M 9), .int .i64 (M 10), .int .i64 (M 11), .int .i64 (M 12), .int .i64 (M 13), .int .i64 (M 14), .int .i64 (M 15), .int .i64 (M 16), .int .i64 (M 17)], .agg #[.int .i64 (N 0), .int .i64 (N 1), .int .i64 (N 2), .int .i64 (N 3), .int .i64 (N 4), .int .i64 (N 5), .int .i64 (N 6), .int .i64 (N 7), .int .i64 (N 8), .int .i64 (N 9), .int .i64 (N 10), .int .i64 (N 11), .int .i64 (N 12), .int .i64 (N 13), .int .i64 (N 14), .int .i64 (N 15), .int .i64 (N 16), .int .i64 (N 17)]] w fun x w' => x = .returned (.tuple #[.agg #[.int .i64 ((dtsR E P) 0), .int .i64 ((dtsR E P) 1), .int .i64 ((dtsR E P) 2), .int .i64 ((dtsR E P) 3), .int .i64 ((dtsR E P) 4), .int .i64 ((dtsR E P) 5), .int .i64 ((dtsR E P) 6), .int .i64 ((dtsR E P) 7), .int .i64 ((dtsR E P) 8), .int .i64 ((dtsR E P) 9), .int .i64 ((dtsR E P) 10), .int .i64 ((dtsR E P) 11), .int .i64 ((dtsR E P) 12), .int .i64 ((dtsR E P) 13), .int .i64 ((dtsR E P) 14), .int .i64 ((dtsR E P) 15), .int .i64 ((dtsR E P) 16), .int .i64 ((dtsR E P) 17)], .int .i64 (feI E 3)]) ∧ Below w.heap.size w w' := by
  have H0 := Lib.hid A0
  have H1 := Lib.hid A1
  have H2 := Lib.hid A2
  clear A0 A1 A2
  have j0 := midx0 M
  have j1 := midx1 M
  have j2 := midx2 M
  have xR := xRul
  have dz1 := dzA
  have dz2 := dzB
  go_enter Try.func53, Try.ntmps53
  go_upto_region 2 with fail
  refine opq (fun wx => Cs wx w.heap.size 18 M ∧ Cs wx (w.heap.size + 1) 18 N ∧ Cs wx (w.heap.size + 1 + 1) 18 (fun _ => 0) ∧ Fs wx (w.heap.size + 1 + 1) 18 ∧ Cs wx (w.heap.size + 1 + 1 + 1) 18 (dtsN P 0) ∧ Fs wx (w.heap.size + 1 + 1 + 1) 18 ∧ w.heap.size + 1 + 1 + 1 < wx.heap.size ∧ Below w.heap.size w wx) ?_ ?_
  · exact ⟨cs_alloc _ (cs_alloc _ (cs_alloc _ (cs_new rfl (arrM M)) (by simp)) (by simp <;> omega)) (by simp <;> omega), cs_alloc _ (cs_alloc _ (cs_new (by simp) (arrM N)) (by simp)) (by simp <;> omega), cs_alloc _ (cs_new (by simp) arr0) (by simp), fs_alloc _ (fs_new (by simp)) (by simp), cs_eq (cs_new (by simp) arr0) (by apply cases18 <;> rfl), fs_new (by simp), by simp, kb⟩
  rintro wa ⟨cM, cN, cR, fR, cO, fO, zs, HBa⟩
  go_step
  refine load18 (.tmp 2) _ M cM rfl rfl rfl ?_
  clear cM
  generalize hg : w.heap.size + 1 + 1 + 1 = g at *
  go_wp2_with fail
  go_loopg [11] 3 (fun kk s9 wr => ∃ (i : Nat) (z : Int), kk = 3 - i ∧ s9 = .int .i64 z ∧ z = i ∧ i ≤ 3 ∧ feI E i = 0 ∧ Cs wr g 18 (dtsN P i) ∧ Fs wr g 18 ∧ Below g wa wr ∧ wa.heap.size ≤ wr.heap.size)
  case atStart => exact ⟨0, 0, rfl, rfl, rfl, by omega, rfl, cO, fO, Below.refl _ _, Nat.le_refl _⟩
  clear cO fO
  obtain ⟨i, z, rfl, rfl, hz, hi, hF, cI, fI, hbI, hzI⟩ := hrel
  have hFo := Lib.hid hF
  clear hF
  replace cN := cs_below cN hbI (by omega)
  replace cR := cs_below cR hbI (by omega)
  replace fR := fs_below fR hbI (by omega)
  have zv : g < wr.heap.size := by omega
  rcases (show i = 3 ∨ i = 0 ∨ i = 1 ∨ i = 2 by omega) with rfl | rfl | rfl | rfl
  · obtain rfl : z = 3 := hz
    have cF : Cs wr g 18 P := cs_eq cI (by apply cases18 <;> rfl)
    replace HBa := HBa.trans (hbI.mono (by omega))
    clear cI fI hbI
    go_upto_region 10 with fail
    go_step
    refine load18 (.tmp 6) _ P cF rfl rfl rfl ?_
    clear cF
    refine store18 (.tmp 4) (.tmp 28) (w.heap.size + 1 + 1) P (fun _ => 0) cR fR rfl rfl rfl rfl ?_
    intro wx cX fX sX bX
    have HBx := bX w.heap.size w (by omega) HBa
    clear cR fR HBa bX fX sX
    go_wp2
    refine bodyPost_ret (res_mat2 (v := .int .i64 0) Try.results53 rfl rfl cX) rfl ?_
    have e9 : feI E 3 = 0 := hFo.out
    exact ⟨by rw [e9, show dtsR E P = P from funext (fun o => by rw [dtsR, e9, vz0])], HBx⟩
  · obtain rfl : z = 0 := hz
    have Ai := H0.out
    go_upto_region 6 with fail
    refine opq (fun wx => Cs wx (w.heap.size + 1) 18 N ∧ Cs wx (w.heap.size + 1 + 1) 18 (fun _ => 0) ∧ Fs wx (w.heap.size + 1 + 1) 18 ∧ Cs wx g 18 (dtsN P 0) ∧ Fs wx g 18 ∧ Below g wa wx ∧ wa.heap.size ≤ wx.heap.size ∧ wx.heap.size = wr.heap.size + 1 ∧ (wx.cell? ⟨wr.heap.size, 0, none⟩ = some (.int .i64 (M 0)) ∧ wx.cell? ⟨wr.heap.size, 1, none⟩ = some (.int .i64 (M 1)) ∧ wx.cell? ⟨wr.heap.size, 2, none⟩ = some (.int .i64 (M 2)) ∧ wx.cell? ⟨wr.heap.size, 3, none⟩ = some (.int .i64 (M 3)) ∧ wx.cell? ⟨wr.heap.size, 4, none⟩ = some (.int .i64 (M 4)) ∧ wx.cell? ⟨wr.heap.size, 5, none⟩ = some (.int .i64 (M 5)))) ?_ ?_
    · exact ⟨kc, kc, kf, kc, kf, kg, by (first | omega | (simp [ext_size, World.setCell] <;> omega)), by simp, kk, kk, kk, kk, kk, kk⟩
    clear cN cR fR cI fI hbI hzI
    rintro wb ⟨cN, cR, fR, cI, fI, hbI, hzI, hs, r0, r1, r2, r3, r4, r5⟩
    have zq : wr.heap.size < wb.heap.size := by omega
    have zb : g < wb.heap.size := by omega
    clear hs
    generalize wr.heap.size = q at *
    clear wr
    go_step
    refine wpList_plain rfl (fun K hK => ?_)
    go_big_op
    refine hK _ _ ?_
    clear hK K
    refine load18 (.tmp 3) _ N cN rfl rfl rfl ?_
    go_wp2_with fail
    with_reducible refine (Ai _).mono ?_
    rintro e w1 ⟨rfl, hb⟩
    replace cI := cs_below cI hb (by omega)
    replace fI := fs_below fI hb (by omega)
    replace cR := cs_below cR hb (by omega)
    replace fR := fs_below fR hb (by omega)
    replace hbI := hbI.trans (hb.mono (by omega))
    replace hzI : wa.heap.size ≤ w1.heap.size := Nat.le_trans hzI hb.size
    replace zb : g < w1.heap.size := Nat.lt_of_lt_of_le zb hb.size
    clear hb Ai cN r0 r1 r2 r3 r4 r5
    have c0 : ∀ o, o < 18 → w1.cell? ⟨g, o, none⟩ = some (.int .i64 (dtsN P 0 o)) := cI
    have f0 : ∀ o, o < 18 → w1.frozen? ⟨g, o, none⟩ = false := fI
    by_cases he : E 0 = 0
    · have hE := Lib.hid he
      have he1 : (E 0 == 0) = true := by simp [he]
      clear he
      go_wp2
      go_roundg (3 - (0 + 1))
      all_goals first
        | omega
        | exact ⟨0 + 1, 0 + 1, rfl, rfl, rfl, by omega, feI_next (n := 0) hFo.out hE.out, cs_eq (N := up (up (up (up (up (up (dtsN P 0) 0 (P 0)) 1 (P 1)) 2 (P 2)) 3 (P 3)) 4 (P 4)) 5 (P 5)) (kc) (by apply cases18 <;> rfl), kf, kg, by (first | omega | (simp [ext_size, World.setCell] <;> omega))⟩
    · have hE := Lib.hid he
      have he1 : (E 0 == 0) = false := by simp [he]
      clear he
      go_upto_region 8 with fail
      have HBb := HBa.trans (hbI.mono (by omega))
      refine opq (fun wx => Cs wx (w.heap.size + 1 + 1) 18 (fun _ => 0) ∧ Fs wx (w.heap.size + 1 + 1) 18 ∧ Below w.heap.size w wx) ?_ ?_
      · exact ⟨kc, kf, kg⟩
      clear cR fR cI fI hbI c0 f0 HBa HBb
      rintro wy ⟨cR, fR, HBa⟩
      go_step
      refine wpList_plain rfl (fun K hK => ?_)
      go_big_op
      refine hK _ _ ?_
      clear hK K
      refine wpList_plain rfl (fun K hK => ?_)
      go_big_op
      refine hK _ _ ?_
      clear hK K
      refine store18 (.tmp 4) (.tmp 25) (w.heap.size + 1 + 1) (fun _ => 0) (fun _ => 0) cR fR rfl rfl rfl rfl ?_
      intro wx cX fX sX bX
      have HBx := bX w.heap.size w (by omega) HBa
      clear cR fR HBa bX fX sX
      go_wp2
      refine bodyPost_ret (res_mat2 (v := .int .i64 (E 0)) Try.results53 rfl rfl cX) rfl ?_
      have e9 : feI E 3 = E 0 := feI_stop (n := 0) hFo.out hE.out 2
      exact ⟨by rw [e9, show dtsR E P = fun _ => 0 from funext (fun o => by rw [dtsR, e9, vzn hE.out])], HBx⟩
  · obtain rfl : z = 1 := hz
    have Ai := H1.out
    go_upto_region 6 with fail
    refine opq (fun wx => Cs wx (w.heap.size + 1) 18 N ∧ Cs wx (w.heap.size + 1 + 1) 18 (fun _ => 0) ∧ Fs wx (w.heap.size + 1 + 1) 18 ∧ Cs wx g 18 (dtsN P 1) ∧ Fs wx g 18 ∧ Below g wa wx ∧ wa.heap.size ≤ wx.heap.size ∧ wx.heap.size = wr.heap.size + 1 ∧ (wx.cell? ⟨wr.heap.size, 0, none⟩ = some (.int .i64 (M 6)) ∧ wx.cell? ⟨wr.heap.size, 1, none⟩ = some (.int .i64 (M 7)) ∧ wx.cell? ⟨wr.heap.size, 2, none⟩ = some (.int .i64 (M 8)) ∧ wx.cell? ⟨wr.heap.size, 3, none⟩ = some (.int .i64 (M 9)) ∧ wx.cell? ⟨wr.heap.size, 4, none⟩ = some (.int .i64 (M 10)) ∧ wx.cell? ⟨wr.heap.size, 5, none⟩ = some (.int .i64 (M 11)))) ?_ ?_
    · exact ⟨kc, kc, kf, kc, kf, kg, by (first | omega | (simp [ext_size, World.setCell] <;> omega)), by simp, kk, kk, kk, kk, kk, kk⟩
    clear cN cR fR cI fI hbI hzI
    rintro wb ⟨cN, cR, fR, cI, fI, hbI, hzI, hs, r0, r1, r2, r3, r4, r5⟩
    have zq : wr.heap.size < wb.heap.size := by omega
    have zb : g < wb.heap.size := by omega
    clear hs
    generalize wr.heap.size = q at *
    clear wr
    go_step
    refine wpList_plain rfl (fun K hK => ?_)
    go_big_op
    refine hK _ _ ?_
    clear hK K
    refine load18 (.tmp 3) _ N cN rfl rfl rfl ?_
    go_wp2_with fail
    with_reducible refine (Ai _).mono ?_
    rintro e w1 ⟨rfl, hb⟩
    replace cI := cs_below cI hb (by omega)
    replace fI := fs_below fI hb (by omega)
    replace cR := cs_below cR hb (by omega)
    replace fR := fs_below fR hb (by omega)
    replace hbI := hbI.trans (hb.mono (by omega))
    replace hzI : wa.heap.size ≤ w1.heap.size := Nat.le_trans hzI hb.size
    replace zb : g < w1.heap.size := Nat.lt_of_lt_of_le zb hb.size
    clear hb Ai cN r0 r1 r2 r3 r4 r5
    have c0 : ∀ o, o < 18 → w1.cell? ⟨g, o, none⟩ = some (.int .i64 (dtsN P 1 o)) := cI
    have f0 : ∀ o, o < 18 → w1.frozen? ⟨g, o, none⟩ = false := fI
    by_cases he : E 1 = 0
    · have hE := Lib.hid he
      have he1 : (E 1 == 0) = true := by simp [he]
      clear he
      go_wp2
      go_roundg (3 - (1 + 1))
      all_goals first
        | omega
        | exact ⟨1 + 1, 1 + 1, rfl, rfl, rfl, by omega, feI_next (n := 1) hFo.out hE.out, cs_eq (N := up (up (up (up (up (up (dtsN P 1) 6 (P 6)) 7 (P 7)) 8 (P 8)) 9 (P 9)) 10 (P 10)) 11 (P 11)) (kc) (by apply cases18 <;> rfl), kf, kg, by (first | omega | (simp [ext_size, World.setCell] <;> omega))⟩
    · have hE := Lib.hid he
      have he1 : (E 1 == 0) = false := by simp [he]
      clear he
      go_upto_region 8 with fail
      have HBb := HBa.trans (hbI.mono (by omega))
      refine opq (fun wx => Cs wx (w.heap.size + 1 + 1) 18 (fun _ => 0) ∧ Fs wx (w.heap.size + 1 + 1) 18 ∧ Below w.heap.size w wx) ?_ ?_
      · exact ⟨kc, kf, kg⟩
      clear cR fR cI fI hbI c0 f0 HBa HBb
      rintro wy ⟨cR, fR, HBa⟩
      go_step
      refine wpList_plain rfl (fun K hK => ?_)
      go_big_op
      refine hK _ _ ?_
      clear hK K
      refine wpList_plain rfl (fun K hK => ?_)
      go_big_op
      refine hK _ _ ?_
      clear hK K
      refine store18 (.tmp 4) (.tmp 25) (w.heap.size + 1 + 1) (fun _ => 0) (fun _ => 0) cR fR rfl rfl rfl rfl ?_
      intro wx cX fX sX bX
      have HBx := bX w.heap.size w (by omega) HBa
      clear cR fR HBa bX fX sX
      go_wp2
      refine bodyPost_ret (res_mat2 (v := .int .i64 (E 1)) Try.results53 rfl rfl cX) rfl ?_
      have e9 : feI E 3 = E 1 := feI_stop (n := 1) hFo.out hE.out 1
      exact ⟨by rw [e9, show dtsR E P = fun _ => 0 from funext (fun o => by rw [dtsR, e9, vzn hE.out])], HBx⟩
  · obtain rfl : z = 2 := hz
    have Ai := H2.out
    go_upto_region 6 with fail
    refine opq (fun wx => Cs wx (w.heap.size + 1) 18 N ∧ Cs wx (w.heap.size + 1 + 1) 18 (fun _ => 0) ∧ Fs wx (w.heap.size + 1 + 1) 18 ∧ Cs wx g 18 (dtsN P 2) ∧ Fs wx g 18 ∧ Below g wa wx ∧ wa.heap.size ≤ wx.heap.size ∧ wx.heap.size = wr.heap.size + 1 ∧ (wx.cell? ⟨wr.heap.size, 0, none⟩ = some (.int .i64 (M 12)) ∧ wx.cell? ⟨wr.heap.size, 1, none⟩ = some (.int .i64 (M 13)) ∧ wx.cell? ⟨wr.heap.size, 2, none⟩ = some (.int .i64 (M 14)) ∧ wx.cell? ⟨wr.heap.size, 3, none⟩ = some (.int .i64 (M 15)) ∧ wx.cell? ⟨wr.heap.size, 4, none⟩ = some (.int .i64 (M 16)) ∧ wx.cell? ⟨wr.heap.size, 5, none⟩ = some (.int .i64 (M 17)))) ?_ ?_
    · exact ⟨kc, kc, kf, kc, kf, kg, by (first | omega | (simp [ext_size, World.setCell] <;> omega)), by simp, kk, kk, kk, kk, kk, kk⟩
    clear cN cR fR cI fI hbI hzI
    rintro wb ⟨cN, cR, fR, cI, fI, hbI, hzI, hs, r0, r1, r2, r3, r4, r5⟩
    have zq : wr.heap.size < wb.heap.size := by omega
    have zb : g < wb.heap.size := by omega
    clear hs
    generalize wr.heap.size = q at *
    clear wr
    go_step
    refine wpList_plain rfl (fun K hK => ?_)
    go_big_op
    refine hK _ _ ?_
    clear hK K
    refine load18 (.tmp 3) _ N cN rfl rfl rfl ?_
    go_wp2_with fail
    with_reducible refine (Ai _).mono ?_
    rintro e w1 ⟨rfl, hb⟩
    replace cI := cs_below cI hb (by omega)
    replace fI := fs_below fI hb (by omega)
    replace cR := cs_below cR hb (by omega)
    replace fR := fs_below fR hb (by omega)
    replace hbI := hbI.trans (hb.mono (by omega))
    replace hzI : wa.heap.size ≤ w1.heap.size := Nat.le_trans hzI hb.size
    replace zb : g < w1.heap.size := Nat.lt_of_lt_of_le zb hb.size
    clear hb Ai cN r0 r1 r2 r3 r4 r5
    have c0 : ∀ o, o < 18 → w1.cell? ⟨g, o, none⟩ = some (.int .i64 (dtsN P 2 o)) := cI
    have f0 : ∀ o, o < 18 → w1.frozen? ⟨g, o, none⟩ = false := fI
    by_cases he : E 2 = 0
    · have hE := Lib.hid he
      have he1 : (E 2 == 0) = true := by simp [he]
      clear he
      go_wp2
      go_roundg (3 - (2 + 1))
      all_goals first
        | omega
        | exact ⟨2 + 1, 2 + 1, rfl, rfl, rfl, by omega, feI_next (n := 2) hFo.out hE.out, cs_eq (N := up (up (up (up (up (up (dtsN P 2) 12 (P 12)) 13 (P 13)) 14 (P 14)) 15 (P 15)) 16 (P 16)) 17 (P 17)) (kc) (by apply cases18 <;> rfl), kf, kg, by (first | omega | (simp [ext_size, World.setCell] <;> omega))⟩
    · have hE := Lib.hid he
      have he1 : (E 2 == 0) = false := by simp [he]
      clear he
      go_upto_region 8 with fail
      have HBb := HBa.trans (hbI.mono (by omega))
      refine opq (fun wx => Cs wx (w.heap.size + 1 + 1) 18 (fun _ => 0) ∧ Fs wx (w.heap.size + 1 + 1) 18 ∧ Below w.heap.size w wx) ?_ ?_
      · exact ⟨kc, kf, kg⟩
      clear cR fR cI fI hbI c0 f0 HBa HBb
      rintro wy ⟨cR, fR, HBa⟩
      go_step
      refine wpList_plain rfl (fun K hK => ?_)
      go_big_op
      refine hK _ _ ?_
      clear hK K
      refine wpList_plain rfl (fun K hK => ?_)
      go_big_op
      refine hK _ _ ?_
      clear hK K
      refine store18 (.tmp 4) (.tmp 25) (w.heap.size + 1 + 1) (fun _ => 0) (fun _ => 0) cR fR rfl rfl rfl rfl ?_
      intro wx cX fX sX bX
      have HBx := bX w.heap.size w (by omega) HBa
      clear cR fR HBa bX fX sX
      go_wp2
      refine bodyPost_ret (res_mat2 (v := .int .i64 (E 2)) Try.results53 rfl rfl cX) rfl ?_
      have e9 : feI E 3 = E 2 := feI_stop (n := 2) hFo.out hE.out 0
      exact ⟨by rw [e9, show dtsR E P = fun _ => 0 from funext (fun o => by rw [dtsR, e9, vzn hE.out])], HBx⟩
end Go.Proofs.Ytdolfdmgdknboaa
namespace Go.Proofs.Ytdolfdmgdknboaa
open Go.RowKit
set_option linter.unusedVariables false
set_option linter.unusedSimpArgs false

/-- All that there was is as it was, but for block g. -/
structure But (g : Nat) (w w' : World) : Prop where
  below : Below g w w'
  cell : ∀ b o, b < w.heap.size → ¬ b = g → w'.cell? ⟨b, o, none⟩ = w.cell? ⟨b, o, none⟩
  frozen : ∀ b o, b < w.heap.size → ¬ b = g → w'.frozen? ⟨b, o, none⟩ = w.frozen? ⟨b, o, none⟩
theorem But.size {g : Nat} {w w' : World} (h : But g w w') : w.heap.size ≤ w'.heap.size := h.below.size
theorem But.refl (g : Nat) (w : World) : But g w w := ⟨Below.refl _ _, fun _ _ _ _ => rfl, fun _ _ _ _ => rfl⟩
theorem But.trans {g : Nat} {a b c : World} (h : But g a b) (k : But g b c) : But g a c :=
  ⟨h.below.trans k.below, fun x o hx hn => (k.cell x o (Nat.lt_of_lt_of_le hx h.size) hn).trans (h.cell x o hx hn), fun x o hx hn => (k.frozen x o (Nat.lt_of_lt_of_le hx h.size) hn).trans (h.frozen x o hx hn)⟩
theorem But.of_below {g m : Nat} {a b : World} (h : Below m a b) (hm : a.heap.size ≤ m) (hg : g ≤ m) : But g a b :=
  ⟨h.mono hg, fun x o hx _ => h.cell (show x < m by omega), fun x o hx _ => h.frozen (show x < m by omega)⟩
theorem But.alloc {g : Nat} {a b : World} (h : But g a b) (hg : g ≤ b.heap.size) (o : Obj) : But g a (b.alloc o) :=
  h.trans (But.of_below (m := b.heap.size) (bal (b0 b) o) (Nat.le_refl _) hg)
theorem But.drew {g : Nat} {a b : World} (h : But g a b) : But g a b.drew := ⟨Below.drew h.below, h.cell, h.frozen⟩
theorem But.drewN {g n : Nat} {a b : World} (h : But g a b) : But g a (b.drewN n) := ⟨below_drewN h.below n, h.cell, h.frozen⟩
theorem But.set {g k : Nat} {a b : World} (h : But g a b) (v : Value) : But g a (b.setCell ⟨g, k, none⟩ v) :=
  ⟨Below.setCell h.below (Nat.le_refl _) v, fun x o hx hn => by rw [World.cell?_setCell_far _ _ _ _ (fun e => hn e.symm)]; exact h.cell x o hx hn, fun x o hx hn => by rw [World.frozen?_setCell]; exact h.frozen x o hx hn⟩
/-- A store into a block that is new. -/
theorem But.setNew {g c k : Nat} {a b : World} (h : But g a b) (hc : a.heap.size ≤ c) (hg : g ≤ c) (v : Value) : But g a (b.setCell ⟨c, k, none⟩ v) :=
  ⟨Below.setCell h.below hg v, fun x o hx hn => by rw [World.cell?_setCell_far _ _ _ _ (show c ≠ x by omega)]; exact h.cell x o hx hn, fun x o hx hn => by rw [World.frozen?_setCell]; exact h.frozen x o hx hn⟩
theorem But.ext {g : Nat} {a b : World} (h : But g a b) (hg : g ≤ b.heap.size) (l : List Obj) (d : Nat) : But g a (ext b l d) :=
  h.trans (But.of_below (m := b.heap.size) (bext (b0 b) l d) (Nat.le_refl _) hg)
end Go.Proofs.Ytdolfdmgdknboaa
