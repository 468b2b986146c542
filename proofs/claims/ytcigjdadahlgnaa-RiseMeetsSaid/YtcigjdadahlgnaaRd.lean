/-
  Windows: what two lists have in common, by the reference.
-/
import Derived.Test.YtcigjdadahlgnaaRc
namespace Go.Proofs.Ytcigjdadahlgnaa
open Go.RowKit
set_option linter.unusedVariables false
set_option linter.unusedSimpArgs false
theorem one_step (v : Win) {B : List Win} {k : Nat} (h : k < B.length) : one v (B.drop k) = (if ma2 v.1 (fW B k) < mi2 v.2 (tW B k) then [(ma2 v.1 (fW B k), mi2 v.2 (tW B k))] else []) ++ one v (B.drop (k + 1)) := by
  rw [drop_win B h, one]
  split <;> simp
theorem refM_drop {A : List Win} (B : List Win) {i : Nat} (h : i < A.length) : refM (A.drop i) B = one (fW A i, tW A i) B ++ refM (A.drop (i + 1)) B := by
  rw [drop_win A h, refM]

set_option maxRecDepth 100000 in
set_option maxHeartbeats 6400000 in
theorem ref7_Meet (sa sb : Option Addr) (n m ca cb ga oa gb ob : Nat) (A B : List Win) (hn : n ≤ 1000000) (hm : m ≤ 1000000) (w : World) (ha : slW w sa n ga oa A) (hb : slW w sb m gb ob B) :
    Calls Try.prog 6 #[.slice sa n ca, .slice sb m cb] w fun e w' => (∃ v : Value, e = .returned (.tuple #[v, .int .i64 (mtE A B)]) ∧ w'.ownsRow w.heap.size 38 2 v (mtW A B).length (cellsW (mtW A B))) ∧ Below w.heap.size w w' := by
  have A1 : ∀ u : World, slW u sa n ga oa A → _ := fun u h => ref7_Check sa n ca ga oa A hn u h
  have A2 : ∀ u : World, slW u sb m gb ob B → _ := fun u h => ref7_Check sb m cb gb ob B hm u h
  have HA := Lib.hid ha
  have HB := Lib.hid hb
  have hnA : n = A.length := ha.1
  have hmB : m = B.length := hb.1
  clear ha hb
  by_cases h1 : wcE A = 0
  · by_cases h2 : wcE B = 0
    · obtain ⟨n1, okA⟩ := wcE_ok h1
      obtain ⟨m1, okB⟩ := wcE_ok h2
      have hR := mtE_yes h1 h2
      have hlen := refM_len A B
      have hlen2 : (refM A B).length ≤ 1000000 := Nat.le_trans hlen (Nat.mul_le_mul n1 m1)
      have sA := okW_srt okA
      have sB := okW_srt okB
      rw [h1] at A1
      rw [h2] at A2
      generalize mtE A B = E at *
      generalize mtW A B = M0 at *
      generalize hRR : refM A B = R at *
      have HR := Lib.hid hR
      have HQ := Lib.hid (And.intro hRR hlen2)
      obtain ⟨i0, hi, hzz⟩ := Option.map_eq_some_iff.1 infoWin
      simp only [Prod.mk.injEq] at hzz
      obtain ⟨hz0, hz1, hz2⟩ := hzz
      have HI0 := Lib.hid (And.intro hi (And.intro hz0 (And.intro hz1 hz2)))
      have HN := Lib.hid (And.intro hnA hmB)
      clear h1 h2 hR hlen hlen2 sA sB okA okB n1 m1 hi hz0 hz1 hz2 hnA hmB
      have dAl := dAl; have dSt := dSt; have xC := ext_cell; have xF := ext_frozen; have xS := ext_set; have xN := ext_drewN; have xD := ext_drew; have xL := ext_lt; have xE := ext_ne; have xG := ext_nr; have xX := ext_ext; have xL1 := ext_lt1; have xL2 := ext_lt2; have xL3 := ext_lt3; have xM0 := ext_le0; have xM1 := ext_le1; have xM2 := ext_le2
      go_enter Try.func6, Try.ntmps6
      go_wp2_with fail
      with_reducible refine (A1 _ (slW_up HA.out (by (repeat (first | with_reducible exact b0 _ | (with_reducible refine bext ?_ _ _) | (with_reducible refine below_drewN ?_ _) | (with_reducible refine Below.drew ?_) | (with_reducible refine bal ?_ _)))))).mono ?_
      rintro e v1 ⟨rfl, hb1⟩
      have hB1 : Below w.heap.size w v1 := Below.trans (by (repeat (first | with_reducible exact b0 _ | (with_reducible refine bext ?_ _ _) | (with_reducible refine below_drewN ?_ _) | (with_reducible refine Below.drew ?_) | (with_reducible refine bal ?_ _)))) (hb1.mono (by first | omega | (simp [ext_size]; try omega)))
      clear hb1
      go_wp2_with fail
      with_reducible refine (A2 _ (slW_up HB.out (by (repeat (first | with_reducible exact hB1 | (with_reducible refine bext ?_ _ _) | (with_reducible refine below_drewN ?_ _) | (with_reducible refine Below.drew ?_) | (with_reducible refine bal ?_ _) | (with_reducible refine bset ?_ (by first | omega | (simp <;> omega)) _)))))).mono ?_
      rintro e v2 ⟨rfl, hb2⟩
      have hB2 : Below w.heap.size w v2 := Below.trans (by (repeat (first | with_reducible exact hB1 | (with_reducible refine bext ?_ _ _) | (with_reducible refine below_drewN ?_ _) | (with_reducible refine Below.drew ?_) | (with_reducible refine bal ?_ _) | (with_reducible refine bset ?_ (by first | omega | (simp <;> omega)) _)))) (hb2.mono (by first | exact hB1.size | omega | (simp [ext_size]; try omega)))
      clear hb2 hB1
      clear dAl dSt xC xF xS xN xD xL xE xG xX xL1 xL2 xL3 xM0 xM1 xM2 A1 A2
      have zw2 := hB2.size
      go_wp2_with fail
      have hAv := Lib.hid (slW_up HA.out hB2)
      have hBv := Lib.hid (slW_up HB.out hB2)
      go_loopg [6, 7] n (fun kk v s7 wr => ∃ (i : Nat) (M : List Win), kk = n - i ∧ s7 = .int .i64 i ∧ i ≤ n ∧ Hid (M ++ refM (A.drop i) B = R) ∧ wr.ownsRow v2.heap.size 38 2 v M.length (cellsW M) ∧ v2.heap.size ≤ wr.heap.size ∧ Below v2.heap.size v2 wr)
      case atStart => exact ⟨0, [], rfl, rfl, by omega, Lib.hid HQ.out.1, World.ownsRow_nil _ _ _ _, Nat.le_refl _, Below.refl _ _⟩
      case round =>
        obtain ⟨i, M, rfl, rfl, him, HM, hown, hsz, hbr⟩ := hrel
        have hbw : Below w.heap.size w wr := Below.trans hB2 (hbr.mono zw2)
        by_cases hi : i < n
        · have zi : ((i : Int) < (n : Int)) = True := by simp; omega
          have i40 : i ≤ 1000000 := by omega
          obtain ⟨-, za, zc0⟩ := hAv.out
          obtain ⟨rfl, zg⟩ := za (by omega)
          obtain ⟨x0v, x1v⟩ := zc0 i hi
          have hst := refM_drop B (show i < A.length by have := HN.out; omega)
          rw [show refM (A.drop i) B = one (fW A i, tW A i) B ++ refM (A.drop (i + 1)) B from hst] at HM
          generalize hva : fW A i = a at *
          generalize hvb : tW A i = b at *
          generalize hT : refM (A.drop (i + 1)) B = T at *
          have X0 := Lib.hid x0v
          have X1 := Lib.hid x1v
          have HTT := Lib.hid hT
          have HI := Lib.hid hi
          have HO := Lib.hid hown
          clear x0v x1v hst hva hvb hT za zc0 hi hown him
          go_wp2_with fail
          go_loopg [6, 8] m (fun kk v s8 wr => ∃ (k : Nat) (M : List Win), kk = m - k ∧ s8 = .int .i64 k ∧ k ≤ m ∧ Hid (M ++ (one (a, b) (B.drop k) ++ T) = R) ∧ wr.ownsRow v2.heap.size 38 2 v M.length (cellsW M) ∧ v2.heap.size ≤ wr.heap.size ∧ Below v2.heap.size v2 wr)
          case atStart => exact ⟨0, M, rfl, rfl, by omega, HM, HO.out, hsz, hbr⟩
          case round =>
            clear HM HO hsz hbr hbw
            obtain ⟨k, M, rfl, rfl, hkm, HM, hown, hsz, hbr⟩ := hrel
            have hbw : Below w.heap.size w wr := Below.trans hB2 (hbr.mono zw2)
            by_cases hk : k < m
            · have zk : ((k : Int) < (m : Int)) = True := by simp; omega
              have k40 : k ≤ 1000000 := by omega
              obtain ⟨-, zb, zc1⟩ := hBv.out
              obtain ⟨rfl, zh⟩ := zb (by omega)
              obtain ⟨y0v, y1v⟩ := zc1 k hk
              have hst := one_step (a, b) (show k < B.length by have := HN.out; omega)
              generalize hvc : fW B k = c at *
              generalize hvd : tW B k = d at *
              have HST := Lib.hid hst
              have HK := Lib.hid hk
              have HO := Lib.hid hown
              have za1 : ga < wr.heap.size := Nat.lt_of_lt_of_le zg hbr.size
              have zb1 : gb < wr.heap.size := Nat.lt_of_lt_of_le zh hbr.size
              have x0 : wr.cell? ⟨ga, oa + i * 2, none⟩ = some (.int .i64 a) := (hbr.cell zg).trans X0.out
              have x1 : wr.cell? ⟨ga, oa + i * 2 + 1, none⟩ = some (.int .i64 b) := (hbr.cell zg).trans X1.out
              have y0 : wr.cell? ⟨gb, ob + k * 2, none⟩ = some (.int .i64 c) := (hbr.cell zh).trans y0v
              have y1 : wr.cell? ⟨gb, ob + k * 2 + 1, none⟩ = some (.int .i64 d) := (hbr.cell zh).trans y1v
              have M1 := run_max2
              have M2 := run_min2
              have ki : i < n := HI.out
              clear y0v y1v hst hvc hvd zb zc1 hown hkm
              go_wp2_with fail
              go_cut [9] (fun s9 wx => ∃ pb : Nat, s9 = .pointer (some ⟨pb, 0, none⟩) ∧ wx.cell? ⟨pb, 0, none⟩ = some (.int .i64 (ma2 a c)) ∧ wx.cell? ⟨pb, 1, none⟩ = some (.int .i64 (mi2 b d)) ∧ wr.heap.size ≤ pb ∧ pb < wx.heap.size ∧ Below wr.heap.size wr wx)
              case first =>
                have dAl := dAl; have dSt := dSt; have xC := ext_cell; have xF := ext_frozen; have xS := ext_set; have xN := ext_drewN; have xD := ext_drew; have xL := ext_lt; have xE := ext_ne; have xG := ext_nr; have xX := ext_ext; have xL1 := ext_lt1; have xL2 := ext_lt2; have xL3 := ext_lt3; have xM0 := ext_le0; have xM1 := ext_le1; have xM2 := ext_le2
                have dz1 : ∀ (W : World) (l : List Obj) (d : Nat), (ext W.drew l d) = (ext W l d) := fun _ _ _ => rfl
                refine wp_region_held_drew (S := (fun w' => Below wr.heap.size wr w')) (by kernel_rfl) ?_ (fun hHeld => ?_)
                · exact Below.drew (Below.refl _ _)
                refine wpAnyH_take (i := 0) (oi := { dst := some 32, op := Op.move (Operand.tmp 0), type := 22, pos := "ref.go:150", after := #[], guard := none }) (v := ?_) rfl (by kernel_rfl) (by kernel_rfl) (by kernel_rfl) (fun _ _ _ h => h) (Or.inl ⟨by rfl, ?_⟩) (by assumption) ?_
                rotate_left
                · (intro w hSw; (try dsimp only at hSw); go_simp; have q0 := (Below.cell hSw (p := ⟨ga, oa + i * 2, none⟩) za1).trans x0; have q1 := (Below.cell hSw (p := ⟨ga, oa + i * 2 + 1, none⟩) za1).trans x1; have q2 := (Below.cell hSw (p := ⟨gb, ob + k * 2, none⟩) zb1).trans y0; have q3 := (Below.cell hSw (p := ⟨gb, ob + k * 2 + 1, none⟩) zb1).trans y1; (try simp [*]); (try with_reducible rfl))
                try simp only [Act.put, List.setIfInBounds_toArray, List.set_cons_zero, List.set_cons_succ]
                refine wpAnyH_take (i := 1) (oi := { dst := some 33, op := Op.move (Operand.tmp 7), type := 3, pos := "ref.go:150", after := #[], guard := none }) (v := ?_) rfl (by kernel_rfl) (by kernel_rfl) (by kernel_rfl) (fun _ _ _ h => h) (Or.inl ⟨by rfl, ?_⟩) (by assumption) ?_
                rotate_left
                · (intro w hSw; (try dsimp only at hSw); go_simp; have q0 := (Below.cell hSw (p := ⟨ga, oa + i * 2, none⟩) za1).trans x0; have q1 := (Below.cell hSw (p := ⟨ga, oa + i * 2 + 1, none⟩) za1).trans x1; have q2 := (Below.cell hSw (p := ⟨gb, ob + k * 2, none⟩) zb1).trans y0; have q3 := (Below.cell hSw (p := ⟨gb, ob + k * 2 + 1, none⟩) zb1).trans y1; (try simp [*]); (try with_reducible rfl))
                try simp only [Act.put, List.setIfInBounds_toArray, List.set_cons_zero, List.set_cons_succ]
                refine wpAnyH_take (i := 2) (oi := { dst := some 34, op := Op.indexAddr 22 (Operand.tmp 32) (Operand.tmp 33), type := 0, pos := "ref.go:150", after := #[{ on := 0, ground := Ground.data }, { on := 1, ground := Ground.data }], guard := none }) (v := ?_) rfl (by kernel_rfl) (by kernel_rfl) (by kernel_rfl) (fun _ _ _ h => h) (Or.inl ⟨by rfl, ?_⟩) (by assumption) ?_
                rotate_left
                · (intro w hSw; (try dsimp only at hSw); go_simp; have q0 := (Below.cell hSw (p := ⟨ga, oa + i * 2, none⟩) za1).trans x0; have q1 := (Below.cell hSw (p := ⟨ga, oa + i * 2 + 1, none⟩) za1).trans x1; have q2 := (Below.cell hSw (p := ⟨gb, ob + k * 2, none⟩) zb1).trans y0; have q3 := (Below.cell hSw (p := ⟨gb, ob + k * 2 + 1, none⟩) zb1).trans y1; (try simp [*]); (try with_reducible rfl))
                try simp only [Act.put, List.setIfInBounds_toArray, List.set_cons_zero, List.set_cons_succ]
                refine wpAnyH_take (i := 3) (oi := { dst := some 35, op := Op.fieldAddr 38 (Operand.tmp 34) 0, type := 0, pos := "ref.go:150", after := #[{ on := 2, ground := Ground.data }], guard := none }) (v := ?_) rfl (by kernel_rfl) (by kernel_rfl) (by kernel_rfl) (fun _ _ _ h => h) (Or.inl ⟨by rfl, ?_⟩) (by assumption) ?_
                rotate_left
                · (intro w hSw; (try dsimp only at hSw); go_simp; have q0 := (Below.cell hSw (p := ⟨ga, oa + i * 2, none⟩) za1).trans x0; have q1 := (Below.cell hSw (p := ⟨ga, oa + i * 2 + 1, none⟩) za1).trans x1; have q2 := (Below.cell hSw (p := ⟨gb, ob + k * 2, none⟩) zb1).trans y0; have q3 := (Below.cell hSw (p := ⟨gb, ob + k * 2 + 1, none⟩) zb1).trans y1; (try simp [*]); (try with_reducible rfl))
                try simp only [Act.put, List.setIfInBounds_toArray, List.set_cons_zero, List.set_cons_succ]
                refine wpAnyH_take (i := 4) (oi := { dst := some 36, op := Op.load 3 (Operand.tmp 35), type := 3, pos := "ref.go:150", after := #[{ on := 3, ground := Ground.data }], guard := none }) (v := ?_) rfl (by kernel_rfl) (by kernel_rfl) (by kernel_rfl) (fun _ _ _ h => h) (Or.inl ⟨by rfl, ?_⟩) (by assumption) ?_
                rotate_left
                · (intro w hSw; (try dsimp only at hSw); go_simp; have q0 := (Below.cell hSw (p := ⟨ga, oa + i * 2, none⟩) za1).trans x0; have q1 := (Below.cell hSw (p := ⟨ga, oa + i * 2 + 1, none⟩) za1).trans x1; have q2 := (Below.cell hSw (p := ⟨gb, ob + k * 2, none⟩) zb1).trans y0; have q3 := (Below.cell hSw (p := ⟨gb, ob + k * 2 + 1, none⟩) zb1).trans y1; (try simp [*]); (try with_reducible rfl))
                try simp only [Act.put, List.setIfInBounds_toArray, List.set_cons_zero, List.set_cons_succ]
                refine wpAnyH_take (i := 5) (oi := { dst := some 37, op := Op.move (Operand.tmp 1), type := 22, pos := "ref.go:150", after := #[], guard := none }) (v := ?_) rfl (by kernel_rfl) (by kernel_rfl) (by kernel_rfl) (fun _ _ _ h => h) (Or.inl ⟨by rfl, ?_⟩) (by assumption) ?_
                rotate_left
                · (intro w hSw; (try dsimp only at hSw); go_simp; have q0 := (Below.cell hSw (p := ⟨ga, oa + i * 2, none⟩) za1).trans x0; have q1 := (Below.cell hSw (p := ⟨ga, oa + i * 2 + 1, none⟩) za1).trans x1; have q2 := (Below.cell hSw (p := ⟨gb, ob + k * 2, none⟩) zb1).trans y0; have q3 := (Below.cell hSw (p := ⟨gb, ob + k * 2 + 1, none⟩) zb1).trans y1; (try simp [*]); (try with_reducible rfl))
                try simp only [Act.put, List.setIfInBounds_toArray, List.set_cons_zero, List.set_cons_succ]
                refine wpAnyH_take (i := 6) (oi := { dst := some 38, op := Op.move (Operand.tmp 8), type := 3, pos := "ref.go:150", after := #[], guard := none }) (v := ?_) rfl (by kernel_rfl) (by kernel_rfl) (by kernel_rfl) (fun _ _ _ h => h) (Or.inl ⟨by rfl, ?_⟩) (by assumption) ?_
                rotate_left
                · (intro w hSw; (try dsimp only at hSw); go_simp; have q0 := (Below.cell hSw (p := ⟨ga, oa + i * 2, none⟩) za1).trans x0; have q1 := (Below.cell hSw (p := ⟨ga, oa + i * 2 + 1, none⟩) za1).trans x1; have q2 := (Below.cell hSw (p := ⟨gb, ob + k * 2, none⟩) zb1).trans y0; have q3 := (Below.cell hSw (p := ⟨gb, ob + k * 2 + 1, none⟩) zb1).trans y1; (try simp [*]); (try with_reducible rfl))
                try simp only [Act.put, List.setIfInBounds_toArray, List.set_cons_zero, List.set_cons_succ]
                refine wpAnyH_take (i := 7) (oi := { dst := some 39, op := Op.indexAddr 22 (Operand.tmp 37) (Operand.tmp 38), type := 0, pos := "ref.go:150", after := #[{ on := 5, ground := Ground.data }, { on := 6, ground := Ground.data }], guard := none }) (v := ?_) rfl (by kernel_rfl) (by kernel_rfl) (by kernel_rfl) (fun _ _ _ h => h) (Or.inl ⟨by rfl, ?_⟩) (by assumption) ?_
                rotate_left
                · (intro w hSw; (try dsimp only at hSw); go_simp; have q0 := (Below.cell hSw (p := ⟨ga, oa + i * 2, none⟩) za1).trans x0; have q1 := (Below.cell hSw (p := ⟨ga, oa + i * 2 + 1, none⟩) za1).trans x1; have q2 := (Below.cell hSw (p := ⟨gb, ob + k * 2, none⟩) zb1).trans y0; have q3 := (Below.cell hSw (p := ⟨gb, ob + k * 2 + 1, none⟩) zb1).trans y1; (try simp [*]); (try with_reducible rfl))
                try simp only [Act.put, List.setIfInBounds_toArray, List.set_cons_zero, List.set_cons_succ]
                refine wpAnyH_take (i := 8) (oi := { dst := some 40, op := Op.fieldAddr 38 (Operand.tmp 39) 0, type := 0, pos := "ref.go:150", after := #[{ on := 7, ground := Ground.data }], guard := none }) (v := ?_) rfl (by kernel_rfl) (by kernel_rfl) (by kernel_rfl) (fun _ _ _ h => h) (Or.inl ⟨by rfl, ?_⟩) (by assumption) ?_
                rotate_left
                · (intro w hSw; (try dsimp only at hSw); go_simp; have q0 := (Below.cell hSw (p := ⟨ga, oa + i * 2, none⟩) za1).trans x0; have q1 := (Below.cell hSw (p := ⟨ga, oa + i * 2 + 1, none⟩) za1).trans x1; have q2 := (Below.cell hSw (p := ⟨gb, ob + k * 2, none⟩) zb1).trans y0; have q3 := (Below.cell hSw (p := ⟨gb, ob + k * 2 + 1, none⟩) zb1).trans y1; (try simp [*]); (try with_reducible rfl))
                try simp only [Act.put, List.setIfInBounds_toArray, List.set_cons_zero, List.set_cons_succ]
                refine wpAnyH_take (i := 9) (oi := { dst := some 41, op := Op.load 3 (Operand.tmp 40), type := 3, pos := "ref.go:150", after := #[{ on := 8, ground := Ground.data }], guard := none }) (v := ?_) rfl (by kernel_rfl) (by kernel_rfl) (by kernel_rfl) (fun _ _ _ h => h) (Or.inl ⟨by rfl, ?_⟩) (by assumption) ?_
                rotate_left
                · (intro w hSw; (try dsimp only at hSw); go_simp; have q0 := (Below.cell hSw (p := ⟨ga, oa + i * 2, none⟩) za1).trans x0; have q1 := (Below.cell hSw (p := ⟨ga, oa + i * 2 + 1, none⟩) za1).trans x1; have q2 := (Below.cell hSw (p := ⟨gb, ob + k * 2, none⟩) zb1).trans y0; have q3 := (Below.cell hSw (p := ⟨gb, ob + k * 2 + 1, none⟩) zb1).trans y1; (try simp [*]); (try with_reducible rfl))
                try simp only [Act.put, List.setIfInBounds_toArray, List.set_cons_zero, List.set_cons_succ]
                refine wpAnyH_take (i := 10) (oi := { dst := some 42, op := Op.call { callee := Callee.builtin Builtin.max, args := #[Operand.tmp 36, Operand.tmp 41], argTypes := #[3, 3] }, type := 3, pos := "ref.go:150", after := #[{ on := 4, ground := Ground.data }, { on := 9, ground := Ground.data }], guard := none }) (v := ?_) rfl (by kernel_rfl) (by kernel_rfl) (by kernel_rfl) (fun _ _ _ h => h) (Or.inl ⟨by rfl, ?_⟩) (by assumption) ?_
                rotate_left
                · (intro w hSw; (try dsimp only at hSw); go_simp; have q0 := (Below.cell hSw (p := ⟨ga, oa + i * 2, none⟩) za1).trans x0; have q1 := (Below.cell hSw (p := ⟨ga, oa + i * 2 + 1, none⟩) za1).trans x1; have q2 := (Below.cell hSw (p := ⟨gb, ob + k * 2, none⟩) zb1).trans y0; have q3 := (Below.cell hSw (p := ⟨gb, ob + k * 2 + 1, none⟩) zb1).trans y1; (try simp [*]); (try with_reducible rfl))
                try simp only [Act.put, List.setIfInBounds_toArray, List.set_cons_zero, List.set_cons_succ]
                refine wpAnyH_take (i := 11) (oi := { dst := some 43, op := Op.move (Operand.tmp 0), type := 22, pos := "ref.go:150", after := #[], guard := none }) (v := ?_) rfl (by kernel_rfl) (by kernel_rfl) (by kernel_rfl) (fun _ _ _ h => h) (Or.inl ⟨by rfl, ?_⟩) (by assumption) ?_
                rotate_left
                · (intro w hSw; (try dsimp only at hSw); go_simp; have q0 := (Below.cell hSw (p := ⟨ga, oa + i * 2, none⟩) za1).trans x0; have q1 := (Below.cell hSw (p := ⟨ga, oa + i * 2 + 1, none⟩) za1).trans x1; have q2 := (Below.cell hSw (p := ⟨gb, ob + k * 2, none⟩) zb1).trans y0; have q3 := (Below.cell hSw (p := ⟨gb, ob + k * 2 + 1, none⟩) zb1).trans y1; (try simp [*]); (try with_reducible rfl))
                try simp only [Act.put, List.setIfInBounds_toArray, List.set_cons_zero, List.set_cons_succ]
                refine wpAnyH_take (i := 12) (oi := { dst := some 44, op := Op.move (Operand.tmp 7), type := 3, pos := "ref.go:150", after := #[], guard := none }) (v := ?_) rfl (by kernel_rfl) (by kernel_rfl) (by kernel_rfl) (fun _ _ _ h => h) (Or.inl ⟨by rfl, ?_⟩) (by assumption) ?_
                rotate_left
                · (intro w hSw; (try dsimp only at hSw); go_simp; have q0 := (Below.cell hSw (p := ⟨ga, oa + i * 2, none⟩) za1).trans x0; have q1 := (Below.cell hSw (p := ⟨ga, oa + i * 2 + 1, none⟩) za1).trans x1; have q2 := (Below.cell hSw (p := ⟨gb, ob + k * 2, none⟩) zb1).trans y0; have q3 := (Below.cell hSw (p := ⟨gb, ob + k * 2 + 1, none⟩) zb1).trans y1; (try simp [*]); (try with_reducible rfl))
                try simp only [Act.put, List.setIfInBounds_toArray, List.set_cons_zero, List.set_cons_succ]
                refine wpAnyH_take (i := 13) (oi := { dst := some 45, op := Op.indexAddr 22 (Operand.tmp 43) (Operand.tmp 44), type := 0, pos := "ref.go:150", after := #[{ on := 11, ground := Ground.data }, { on := 12, ground := Ground.data }], guard := none }) (v := ?_) rfl (by kernel_rfl) (by kernel_rfl) (by kernel_rfl) (fun _ _ _ h => h) (Or.inl ⟨by rfl, ?_⟩) (by assumption) ?_
                rotate_left
                · (intro w hSw; (try dsimp only at hSw); go_simp; have q0 := (Below.cell hSw (p := ⟨ga, oa + i * 2, none⟩) za1).trans x0; have q1 := (Below.cell hSw (p := ⟨ga, oa + i * 2 + 1, none⟩) za1).trans x1; have q2 := (Below.cell hSw (p := ⟨gb, ob + k * 2, none⟩) zb1).trans y0; have q3 := (Below.cell hSw (p := ⟨gb, ob + k * 2 + 1, none⟩) zb1).trans y1; (try simp [*]); (try with_reducible rfl))
                try simp only [Act.put, List.setIfInBounds_toArray, List.set_cons_zero, List.set_cons_succ]
                refine wpAnyH_take (i := 14) (oi := { dst := some 46, op := Op.fieldAddr 38 (Operand.tmp 45) 1, type := 0, pos := "ref.go:150", after := #[{ on := 13, ground := Ground.data }], guard := none }) (v := ?_) rfl (by kernel_rfl) (by kernel_rfl) (by kernel_rfl) (fun _ _ _ h => h) (Or.inl ⟨by rfl, ?_⟩) (by assumption) ?_
                rotate_left
                · (intro w hSw; (try dsimp only at hSw); go_simp; have q0 := (Below.cell hSw (p := ⟨ga, oa + i * 2, none⟩) za1).trans x0; have q1 := (Below.cell hSw (p := ⟨ga, oa + i * 2 + 1, none⟩) za1).trans x1; have q2 := (Below.cell hSw (p := ⟨gb, ob + k * 2, none⟩) zb1).trans y0; have q3 := (Below.cell hSw (p := ⟨gb, ob + k * 2 + 1, none⟩) zb1).trans y1; (try simp [*]); (try with_reducible rfl))
                try simp only [Act.put, List.setIfInBounds_toArray, List.set_cons_zero, List.set_cons_succ]
                refine wpAnyH_take (i := 15) (oi := { dst := some 47, op := Op.load 3 (Operand.tmp 46), type := 3, pos := "ref.go:150", after := #[{ on := 14, ground := Ground.data }], guard := none }) (v := ?_) rfl (by kernel_rfl) (by kernel_rfl) (by kernel_rfl) (fun _ _ _ h => h) (Or.inl ⟨by rfl, ?_⟩) (by assumption) ?_
                rotate_left
                · (intro w hSw; (try dsimp only at hSw); go_simp; have q0 := (Below.cell hSw (p := ⟨ga, oa + i * 2, none⟩) za1).trans x0; have q1 := (Below.cell hSw (p := ⟨ga, oa + i * 2 + 1, none⟩) za1).trans x1; have q2 := (Below.cell hSw (p := ⟨gb, ob + k * 2, none⟩) zb1).trans y0; have q3 := (Below.cell hSw (p := ⟨gb, ob + k * 2 + 1, none⟩) zb1).trans y1; (try simp [*]); (try with_reducible rfl))
                try simp only [Act.put, List.setIfInBounds_toArray, List.set_cons_zero, List.set_cons_succ]
                refine wpAnyH_take (i := 16) (oi := { dst := some 48, op := Op.move (Operand.tmp 1), type := 22, pos := "ref.go:150", after := #[], guard := none }) (v := ?_) rfl (by kernel_rfl) (by kernel_rfl) (by kernel_rfl) (fun _ _ _ h => h) (Or.inl ⟨by rfl, ?_⟩) (by assumption) ?_
                rotate_left
                · (intro w hSw; (try dsimp only at hSw); go_simp; have q0 := (Below.cell hSw (p := ⟨ga, oa + i * 2, none⟩) za1).trans x0; have q1 := (Below.cell hSw (p := ⟨ga, oa + i * 2 + 1, none⟩) za1).trans x1; have q2 := (Below.cell hSw (p := ⟨gb, ob + k * 2, none⟩) zb1).trans y0; have q3 := (Below.cell hSw (p := ⟨gb, ob + k * 2 + 1, none⟩) zb1).trans y1; (try simp [*]); (try with_reducible rfl))
                try simp only [Act.put, List.setIfInBounds_toArray, List.set_cons_zero, List.set_cons_succ]
                refine wpAnyH_take (i := 17) (oi := { dst := some 49, op := Op.move (Operand.tmp 8), type := 3, pos := "ref.go:150", after := #[], guard := none }) (v := ?_) rfl (by kernel_rfl) (by kernel_rfl) (by kernel_rfl) (fun _ _ _ h => h) (Or.inl ⟨by rfl, ?_⟩) (by assumption) ?_
                rotate_left
                · (intro w hSw; (try dsimp only at hSw); go_simp; have q0 := (Below.cell hSw (p := ⟨ga, oa + i * 2, none⟩) za1).trans x0; have q1 := (Below.cell hSw (p := ⟨ga, oa + i * 2 + 1, none⟩) za1).trans x1; have q2 := (Below.cell hSw (p := ⟨gb, ob + k * 2, none⟩) zb1).trans y0; have q3 := (Below.cell hSw (p := ⟨gb, ob + k * 2 + 1, none⟩) zb1).trans y1; (try simp [*]); (try with_reducible rfl))
                try simp only [Act.put, List.setIfInBounds_toArray, List.set_cons_zero, List.set_cons_succ]
                refine wpAnyH_take (i := 18) (oi := { dst := some 50, op := Op.indexAddr 22 (Operand.tmp 48) (Operand.tmp 49), type := 0, pos := "ref.go:150", after := #[{ on := 16, ground := Ground.data }, { on := 17, ground := Ground.data }], guard := none }) (v := ?_) rfl (by kernel_rfl) (by kernel_rfl) (by kernel_rfl) (fun _ _ _ h => h) (Or.inl ⟨by rfl, ?_⟩) (by assumption) ?_
                rotate_left
                · (intro w hSw; (try dsimp only at hSw); go_simp; have q0 := (Below.cell hSw (p := ⟨ga, oa + i * 2, none⟩) za1).trans x0; have q1 := (Below.cell hSw (p := ⟨ga, oa + i * 2 + 1, none⟩) za1).trans x1; have q2 := (Below.cell hSw (p := ⟨gb, ob + k * 2, none⟩) zb1).trans y0; have q3 := (Below.cell hSw (p := ⟨gb, ob + k * 2 + 1, none⟩) zb1).trans y1; (try simp [*]); (try with_reducible rfl))
                try simp only [Act.put, List.setIfInBounds_toArray, List.set_cons_zero, List.set_cons_succ]
                refine wpAnyH_take (i := 19) (oi := { dst := some 51, op := Op.fieldAddr 38 (Operand.tmp 50) 1, type := 0, pos := "ref.go:150", after := #[{ on := 18, ground := Ground.data }], guard := none }) (v := ?_) rfl (by kernel_rfl) (by kernel_rfl) (by kernel_rfl) (fun _ _ _ h => h) (Or.inl ⟨by rfl, ?_⟩) (by assumption) ?_
                rotate_left
                · (intro w hSw; (try dsimp only at hSw); go_simp; have q0 := (Below.cell hSw (p := ⟨ga, oa + i * 2, none⟩) za1).trans x0; have q1 := (Below.cell hSw (p := ⟨ga, oa + i * 2 + 1, none⟩) za1).trans x1; have q2 := (Below.cell hSw (p := ⟨gb, ob + k * 2, none⟩) zb1).trans y0; have q3 := (Below.cell hSw (p := ⟨gb, ob + k * 2 + 1, none⟩) zb1).trans y1; (try simp [*]); (try with_reducible rfl))
                try simp only [Act.put, List.setIfInBounds_toArray, List.set_cons_zero, List.set_cons_succ]
                refine wpAnyH_take (i := 20) (oi := { dst := some 52, op := Op.load 3 (Operand.tmp 51), type := 3, pos := "ref.go:150", after := #[{ on := 19, ground := Ground.data }], guard := none }) (v := ?_) rfl (by kernel_rfl) (by kernel_rfl) (by kernel_rfl) (fun _ _ _ h => h) (Or.inl ⟨by rfl, ?_⟩) (by assumption) ?_
                rotate_left
                · (intro w hSw; (try dsimp only at hSw); go_simp; have q0 := (Below.cell hSw (p := ⟨ga, oa + i * 2, none⟩) za1).trans x0; have q1 := (Below.cell hSw (p := ⟨ga, oa + i * 2 + 1, none⟩) za1).trans x1; have q2 := (Below.cell hSw (p := ⟨gb, ob + k * 2, none⟩) zb1).trans y0; have q3 := (Below.cell hSw (p := ⟨gb, ob + k * 2 + 1, none⟩) zb1).trans y1; (try simp [*]); (try with_reducible rfl))
                try simp only [Act.put, List.setIfInBounds_toArray, List.set_cons_zero, List.set_cons_succ]
                refine wpAnyH_take (i := 21) (oi := { dst := some 53, op := Op.call { callee := Callee.builtin Builtin.min, args := #[Operand.tmp 47, Operand.tmp 52], argTypes := #[3, 3] }, type := 3, pos := "ref.go:150", after := #[{ on := 15, ground := Ground.data }, { on := 20, ground := Ground.data }], guard := none }) (v := ?_) rfl (by kernel_rfl) (by kernel_rfl) (by kernel_rfl) (fun _ _ _ h => h) (Or.inl ⟨by rfl, ?_⟩) (by assumption) ?_
                rotate_left
                · (intro w hSw; (try dsimp only at hSw); go_simp; have q0 := (Below.cell hSw (p := ⟨ga, oa + i * 2, none⟩) za1).trans x0; have q1 := (Below.cell hSw (p := ⟨ga, oa + i * 2 + 1, none⟩) za1).trans x1; have q2 := (Below.cell hSw (p := ⟨gb, ob + k * 2, none⟩) zb1).trans y0; have q3 := (Below.cell hSw (p := ⟨gb, ob + k * 2 + 1, none⟩) zb1).trans y1; (try simp [*]); (try with_reducible rfl))
                try simp only [Act.put, List.setIfInBounds_toArray, List.set_cons_zero, List.set_cons_succ]
                refine wpAnyH_take (i := 22) (oi := { dst := some 54, op := Op.build 38 #[(0, Operand.tmp 42), (1, Operand.tmp 53)], type := 38, pos := "ref.go:150", after := #[{ on := 10, ground := Ground.data }, { on := 21, ground := Ground.data }], guard := none }) (v := ?_) rfl (by kernel_rfl) (by kernel_rfl) (by kernel_rfl) (fun _ _ _ h => h) (Or.inl ⟨by rfl, ?_⟩) (by assumption) ?_
                rotate_left
                · (intro w hSw; (try dsimp only at hSw); go_simp; have q0 := (Below.cell hSw (p := ⟨ga, oa + i * 2, none⟩) za1).trans x0; have q1 := (Below.cell hSw (p := ⟨ga, oa + i * 2 + 1, none⟩) za1).trans x1; have q2 := (Below.cell hSw (p := ⟨gb, ob + k * 2, none⟩) zb1).trans y0; have q3 := (Below.cell hSw (p := ⟨gb, ob + k * 2 + 1, none⟩) zb1).trans y1; (try simp [*]); (try with_reducible rfl))
                try simp only [Act.put, List.setIfInBounds_toArray, List.set_cons_zero, List.set_cons_succ]
                refine wpAnyH_ready (rs := [23]) (by kernel_rfl) (by simp) ?_
                refine AllReadyH.cons (o := { dst := some 9, op := Op.alloc 38, type := 0, pos := "ref.go:150", after := #[], guard := none }) rfl (fun K hK => ?_) ?_
                · go_simp
                  refine hK.out _ _ ?_ (fun hHeld2 => ?_)
                  · (repeat (first | with_reducible exact hHeld | with_reducible exact Below.refl _ _ | with_reducible refine bextm ?_ (by first | omega | (simp [ext_size, World.setCell] <;> omega)) _ _ | with_reducible refine below_drewN ?_ _ | with_reducible refine Below.drew ?_ | with_reducible refine Below.alloc ?_ (by first | omega | (simp [ext_size, World.setCell] <;> omega)) _ | with_reducible refine Below.setCell ?_ (by first | omega | (simp [ext_size, World.setCell] <;> omega)) _))
                  clear hK K hHeld
                  have hHeld := hHeld2
                  clear hHeld2
                  try simp only [Act.put, List.setIfInBounds_toArray, List.set_cons_zero, List.set_cons_succ]
                  refine wpAnyH_ready (rs := [24]) (by kernel_rfl) (by simp) ?_
                  refine AllReadyH.cons (o := { dst := none, op := Op.store 38 (Operand.tmp 9) (Operand.tmp 54), type := 0, pos := "ref.go:150", after := #[{ on := 23, ground := Ground.data }, { on := 22, ground := Ground.data }, { on := 0, ground := Ground.phase }, { on := 1, ground := Ground.phase }, { on := 2, ground := Ground.phase }, { on := 3, ground := Ground.phase }, { on := 4, ground := Ground.phase }, { on := 5, ground := Ground.phase }, { on := 6, ground := Ground.phase }, { on := 7, ground := Ground.phase }, { on := 8, ground := Ground.phase }, { on := 9, ground := Ground.phase }, { on := 10, ground := Ground.phase }, { on := 11, ground := Ground.phase }, { on := 12, ground := Ground.phase }, { on := 13, ground := Ground.phase }, { on := 14, ground := Ground.phase }, { on := 15, ground := Ground.phase }, { on := 16, ground := Ground.phase }, { on := 17, ground := Ground.phase }, { on := 18, ground := Ground.phase }, { on := 19, ground := Ground.phase }, { on := 20, ground := Ground.phase }, { on := 21, ground := Ground.phase }, { on := 22, ground := Ground.phase }, { on := 23, ground := Ground.phase }], guard := none }) rfl (fun K hK => ?_) ?_
                  · go_simp
                    refine hK.out _ _ ?_ (fun hHeld2 => ?_)
                    · (repeat (first | with_reducible exact hHeld | with_reducible exact Below.refl _ _ | with_reducible refine bextm ?_ (by first | omega | (simp [ext_size, World.setCell] <;> omega)) _ _ | with_reducible refine below_drewN ?_ _ | with_reducible refine Below.drew ?_ | with_reducible refine Below.alloc ?_ (by first | omega | (simp [ext_size, World.setCell] <;> omega)) _ | with_reducible refine Below.setCell ?_ (by first | omega | (simp [ext_size, World.setCell] <;> omega)) _))
                    clear hK K hHeld
                    have hHeld := hHeld2
                    clear hHeld2
                    try simp only [Act.put, List.setIfInBounds_toArray, List.set_cons_zero, List.set_cons_succ]
                    refine wpAnyH_done (by kernel_rfl) ?_ _
                    go_wp2_with fail
                    go_meet
                    exact ⟨_, rfl, by (simp (maxDischargeDepth := 8) [go_sem, World.cell?_alloc_past, ltk2, ltk3, ltk4, ltk5, ltk6, ltk7, ltk8, ltk9, *]), by (simp (maxDischargeDepth := 8) [go_sem, World.cell?_alloc_past, ltk2, ltk3, ltk4, ltk5, ltk6, ltk7, ltk8, ltk9, *]), (by first | omega | (simp [ext_size, World.setCell] <;> omega)), (by first | omega | (simp [ext_size, World.setCell] <;> omega)), hHeld⟩
                  exact AllReadyH.nil
                exact AllReadyH.nil
              case rest =>
                obtain ⟨pb, rfl, k0, k1, zpb, zpb2, hBx⟩ := hcut
                have hBc : Below v2.heap.size v2 wc := Below.trans hbr (hBx.mono hsz)
                have zc : v2.heap.size ≤ wc.heap.size := hBc.size
                have how := own_belowW HO.out hBx
                clear x0 x1 y0 y1 za1 zb1 hBx HO M1 M2 hk ki
                by_cases ht : ma2 a c < mi2 b d
                · have zt : (ma2 a c < mi2 b d) = True := eq_true ht
                  have hs1 := HST.out
                  simp only [if_pos ht] at hs1
                  have HS1 := Lib.hid hs1
                  clear hs1 ht HST
                  obtain ⟨j1, j2, j3, j4⟩ := HI0.out
                  have hML : M.length ≤ 1000000 := by
                    have h1 := HM.out
                    have h2 := HQ.out.2
                    rw [← h1, List.length_append] at h2
                    omega
                  go_wp2_with (at_builtin; refine wpList_append_own _ rfl _ _ 22 rfl v2.heap.size 38 i0 (.agg zeroW) 2 16 Try.underlying22 j1 j2 j3 j4 rfl (by decide) _ _ _ rfl (how.alloc _) ⟨wc.heap.size, 0, none⟩ 1 1 [.int .i64 (ma2 a c), .int .i64 (mi2 b d)] rfl rfl ?c1 ?c2 ?c3 ?c4 ?c5 ?_)
                  case c1 =>
                    intro j u hj
                    have hj6 : j < 2 := (List.getElem?_eq_some_iff.1 hj).1
                    rcases (show j = 0 ∨ j = 1 by omega) with rfl | rfl <;> (simp at hj; subst hj; simp [Addr.add])
                  case c2 => intro u hu; simp at hu; rcases hu with rfl | rfl <;> rfl
                  case c3 => unfold maxLen; omega
                  case c4 => omega
                  case c5 => simp; omega
                  intro v' w2 hown' hgrow _
                  have R1 := appW how hBc zc hown' hgrow
                  have hcl : cellsW M ++ [.int .i64 (ma2 a c), .int .i64 (mi2 b d)] = cellsW (M ++ [(ma2 a c, mi2 b d)]) := by rw [cellsW_app]; rfl
                  have hll : M.length + 1 = (M ++ [(ma2 a c, mi2 b d)]).length := by simp
                  rw [hcl, hll] at hown'
                  have HO' := Lib.hid hown'
                  clear hown' hgrow how hBc j1 j2 j3 j4 hcl hll k0 k1 zpb zpb2
                  go_wp2
                  go_roundg (m - (k + 1))
                  case measure => have := HK.out; omega
                  case rel => exact ⟨k + 1, M ++ [(ma2 a c, mi2 b d)], rfl, by go_num, by have := HK.out; omega, Lib.hid (by have h := HM.out; rw [HS1.out] at h; rw [← h]; simp), HO'.out, R1.2, by (repeat (first | with_reducible exact R1.1 | (with_reducible refine bext ?_ _ _) | (with_reducible refine below_drewN ?_ _) | (with_reducible refine Below.drew ?_) | (with_reducible refine bal ?_ _) | (with_reducible refine bset ?_ (by first | omega | (simp <;> omega)) _)))⟩
                · have zt : (ma2 a c < mi2 b d) = False := eq_false ht
                  have hs1 := HST.out
                  simp only [if_neg ht, List.nil_append] at hs1
                  have HS1 := Lib.hid hs1
                  have HO' := Lib.hid how
                  clear hs1 ht HST how
                  go_wp2
                  go_roundg (m - (k + 1))
                  case measure => have := HK.out; omega
                  case rel => exact ⟨k + 1, M, rfl, by go_num, by have := HK.out; omega, Lib.hid (by have h := HM.out; rw [HS1.out] at h; exact h), HO'.out, zc, by (repeat (first | with_reducible exact hBc | (with_reducible refine bext ?_ _ _) | (with_reducible refine below_drewN ?_ _) | (with_reducible refine Below.drew ?_) | (with_reducible refine bal ?_ _) | (with_reducible refine bset ?_ (by first | omega | (simp <;> omega)) _)))⟩
            · have zk : ((k : Int) < (m : Int)) = False := by simp; omega
              have hB0 : B.drop k = [] := drop_end B (by have := HN.out; omega)
              have HM2 : Hid (M ++ T = R) := Lib.hid (by have h := HM.out; rw [hB0] at h; exact h)
              have HO := Lib.hid hown
              clear hk hB0 HM hown
              go_wp2
              go_roundg (n - (i + 1))
              case measure => have := HI.out; omega
              case rel => exact ⟨i + 1, M, rfl, by go_num, by have := HI.out; omega, Lib.hid (by rw [HTT.out]; exact HM2.out), HO.out, hsz, by (repeat (first | with_reducible exact hbr | (with_reducible refine bext ?_ _ _) | (with_reducible refine below_drewN ?_ _) | (with_reducible refine Below.drew ?_) | (with_reducible refine bal ?_ _) | (with_reducible refine bset ?_ (by first | omega | (simp <;> omega)) _)))⟩
        · have zi : ((i : Int) < (n : Int)) = False := by simp; omega
          have hMR : M = R := by have := HM.out; rw [drop_end A (by have := HN.out; omega), refM_nil', List.append_nil] at this; exact this
          subst hMR
          obtain ⟨r4, r0⟩ := HR.out
          have HOW := Lib.hid (own_monoW hown zw2)
          clear hown HM HR HQ hi
          by_cases hl : 1000 < M.length
          · obtain ⟨rfl, rfl⟩ := r4 hl
            have zl : ((1000 : Int) < (M.length : Int)) = True := by simp; omega
            obtain ⟨s2, c2, g2, rfl, hs2⟩ := slW_own HOW.out
            clear r4 r0 hl hs2
            go_wp2
            go_ret2
            exact ⟨⟨_, rfl, World.ownsRow_nil _ _ _ _⟩, by (repeat (first | with_reducible exact hbw | (with_reducible refine bext ?_ _ _) | (with_reducible refine below_drewN ?_ _) | (with_reducible refine Below.drew ?_) | (with_reducible refine bal ?_ _) | (with_reducible refine bset ?_ (by first | omega | (simp <;> omega)) _)))⟩
          · obtain ⟨rfl, rfl⟩ := r0 hl
            have zl : ((1000 : Int) < (M0.length : Int)) = False := by simp; omega
            obtain ⟨s2, c2, g2, rfl, hs2⟩ := slW_own HOW.out
            clear r4 r0 hl hs2
            go_wp2
            go_ret2
            exact ⟨⟨_, rfl, HOW.out⟩, by (repeat (first | with_reducible exact hbw | (with_reducible refine bext ?_ _ _) | (with_reducible refine below_drewN ?_ _) | (with_reducible refine Below.drew ?_) | (with_reducible refine bal ?_ _) | (with_reducible refine bset ?_ (by first | omega | (simp <;> omega)) _)))⟩
    · obtain ⟨e1, e2⟩ := mtE_no2 h1 h2
      rw [e1, e2]
      rw [h1] at A1
      have zE : (wcE B != 0) = true := by simp [h2]
      clear e1 e2 h1 h2 hnA hmB
      generalize wcE B = E at *
      have dAl := dAl; have dSt := dSt; have xC := ext_cell; have xF := ext_frozen; have xS := ext_set; have xN := ext_drewN; have xD := ext_drew; have xL := ext_lt; have xE := ext_ne; have xG := ext_nr; have xX := ext_ext; have xL1 := ext_lt1; have xL2 := ext_lt2; have xL3 := ext_lt3; have xM0 := ext_le0; have xM1 := ext_le1; have xM2 := ext_le2
      go_enter Try.func6, Try.ntmps6
      go_wp2_with fail
      with_reducible refine (A1 _ (slW_up HA.out (by (repeat (first | with_reducible exact b0 _ | (with_reducible refine bext ?_ _ _) | (with_reducible refine below_drewN ?_ _) | (with_reducible refine Below.drew ?_) | (with_reducible refine bal ?_ _)))))).mono ?_
      rintro e v1 ⟨rfl, hb1⟩
      have hB1 : Below w.heap.size w v1 := Below.trans (by (repeat (first | with_reducible exact b0 _ | (with_reducible refine bext ?_ _ _) | (with_reducible refine below_drewN ?_ _) | (with_reducible refine Below.drew ?_) | (with_reducible refine bal ?_ _)))) (hb1.mono (by first | omega | (simp [ext_size]; try omega)))
      clear hb1
      go_wp2_with fail
      with_reducible refine (A2 _ (slW_up HB.out (by (repeat (first | with_reducible exact hB1 | (with_reducible refine bext ?_ _ _) | (with_reducible refine below_drewN ?_ _) | (with_reducible refine Below.drew ?_) | (with_reducible refine bal ?_ _) | (with_reducible refine bset ?_ (by first | omega | (simp <;> omega)) _)))))).mono ?_
      rintro e v2 ⟨rfl, hb2⟩
      have hB2 : Below w.heap.size w v2 := Below.trans (by (repeat (first | with_reducible exact hB1 | (with_reducible refine bext ?_ _ _) | (with_reducible refine below_drewN ?_ _) | (with_reducible refine Below.drew ?_) | (with_reducible refine bal ?_ _) | (with_reducible refine bset ?_ (by first | omega | (simp <;> omega)) _)))) (hb2.mono (by first | exact hB1.size | omega | (simp [ext_size]; try omega)))
      clear hb2 hB1
      go_wp2_with fail
      with_reducible refine (A2 _ (slW_up HB.out (by (repeat (first | with_reducible exact hB2 | (with_reducible refine bext ?_ _ _) | (with_reducible refine below_drewN ?_ _) | (with_reducible refine Below.drew ?_) | (with_reducible refine bal ?_ _) | (with_reducible refine bset ?_ (by first | omega | (simp <;> omega)) _)))))).mono ?_
      rintro e v3 ⟨rfl, hb3⟩
      have hB3 : Below w.heap.size w v3 := Below.trans (by (repeat (first | with_reducible exact hB2 | (with_reducible refine bext ?_ _ _) | (with_reducible refine below_drewN ?_ _) | (with_reducible refine Below.drew ?_) | (with_reducible refine bal ?_ _) | (with_reducible refine bset ?_ (by first | omega | (simp <;> omega)) _)))) (hb3.mono (by first | exact hB2.size | omega | (simp [ext_size]; try omega)))
      clear hb3 hB2
      clear dAl dSt xC xF xS xN xD xL xE xG xX xL1 xL2 xL3 xM0 xM1 xM2 A1 A2
      go_wp2
      go_ret2
      exact ⟨⟨_, rfl, World.ownsRow_nil _ _ _ _⟩, by (repeat (first | with_reducible exact hB3 | (with_reducible refine bext ?_ _ _) | (with_reducible refine below_drewN ?_ _) | (with_reducible refine Below.drew ?_) | (with_reducible refine bal ?_ _) | (with_reducible refine bset ?_ (by first | omega | (simp <;> omega)) _)))⟩
  · obtain ⟨e1, e2⟩ := mtE_no1 (B := B) h1
    rw [e1, e2]
    have zE : (wcE A != 0) = true := by simp [h1]
    clear e1 e2 h1 hnA hmB
    generalize wcE A = E at *
    have dAl := dAl; have dSt := dSt; have xC := ext_cell; have xF := ext_frozen; have xS := ext_set; have xN := ext_drewN; have xD := ext_drew; have xL := ext_lt; have xE := ext_ne; have xG := ext_nr; have xX := ext_ext; have xL1 := ext_lt1; have xL2 := ext_lt2; have xL3 := ext_lt3; have xM0 := ext_le0; have xM1 := ext_le1; have xM2 := ext_le2
    go_enter Try.func6, Try.ntmps6
    go_wp2_with fail
    with_reducible refine (A1 _ (slW_up HA.out (by (repeat (first | with_reducible exact b0 _ | (with_reducible refine bext ?_ _ _) | (with_reducible refine below_drewN ?_ _) | (with_reducible refine Below.drew ?_) | (with_reducible refine bal ?_ _)))))).mono ?_
    rintro e v1 ⟨rfl, hb1⟩
    have hB1 : Below w.heap.size w v1 := Below.trans (by (repeat (first | with_reducible exact b0 _ | (with_reducible refine bext ?_ _ _) | (with_reducible refine below_drewN ?_ _) | (with_reducible refine Below.drew ?_) | (with_reducible refine bal ?_ _)))) (hb1.mono (by first | omega | (simp [ext_size]; try omega)))
    clear hb1
    go_wp2_with fail
    with_reducible refine (A1 _ (slW_up HA.out (by (repeat (first | with_reducible exact hB1 | (with_reducible refine bext ?_ _ _) | (with_reducible refine below_drewN ?_ _) | (with_reducible refine Below.drew ?_) | (with_reducible refine bal ?_ _) | (with_reducible refine bset ?_ (by first | omega | (simp <;> omega)) _)))))).mono ?_
    rintro e v2 ⟨rfl, hb2⟩
    have hB2 : Below w.heap.size w v2 := Below.trans (by (repeat (first | with_reducible exact hB1 | (with_reducible refine bext ?_ _ _) | (with_reducible refine below_drewN ?_ _) | (with_reducible refine Below.drew ?_) | (with_reducible refine bal ?_ _) | (with_reducible refine bset ?_ (by first | omega | (simp <;> omega)) _)))) (hb2.mono (by first | exact hB1.size | omega | (simp [ext_size]; try omega)))
    clear hb2 hB1
    clear dAl dSt xC xF xS xN xD xL xE xG xX xL1 xL2 xL3 xM0 xM1 xM2 A1 A2
    go_wp2
    go_ret2
    exact ⟨⟨_, rfl, World.ownsRow_nil _ _ _ _⟩, by (repeat (first | with_reducible exact hB2 | (with_reducible refine bext ?_ _ _) | (with_reducible refine below_drewN ?_ _) | (with_reducible refine Below.drew ?_) | (with_reducible refine bal ?_ _) | (with_reducible refine bset ?_ (by first | omega | (simp <;> omega)) _)))⟩
end Go.Proofs.Ytcigjdadahlgnaa
