/-
  The expansion of the reference.
-/
import Derived.Test.YtbckjccbihnlnaaFc
import Derived.Test.YtbckjccbihnlnaaFei
import Derived.Deep.LoopGhost
namespace Go.Proofs.Ytbckjccbihnlnaa
open Go.RowKit
set_option linter.unusedVariables false
set_option linter.unusedSimpArgs false

theorem infoInt : (Try.prog.info? 2).map (fun i => (i.zero, i.size, i.bytes)) = some (some (.int .i64 0), 1, 8) := by kernel_rfl

theorem app_step {B : Nat} {l : List Int} {q : Int} {w1 wr w2 : World} {v v' : Value} {o : Obj} (hown : wr.ownsRow B 2 1 v l.length (l.map (Value.int .i64))) (hb : Below B w1 wr) (hB : B ≤ wr.heap.size)
    (hown' : w2.ownsRow B 2 1 v' (l.length + 1) (l.map (Value.int .i64) ++ [.int .i64 q])) (hg : (wr.alloc o).grownBy w2 v.ownBlock) :
    w2.ownsRow B 2 1 v' (l ++ [q]).length ((l ++ [q]).map (Value.int .i64)) ∧ Below B w1 w2 ∧ B ≤ w2.heap.size := by
  refine ⟨by simpa using hown', ?_, ?_⟩
  · exact (hb.alloc (by omega) o).grown hg (by simp; omega) (fun j hj => by have := (hown.lt j hj).1; omega)
  · have := ((hb.alloc (by omega) o).grown hg (by simp; omega) (fun j hj => by have := (hown.lt j hj).1; omega)).size
    have h2 := hg.size
    simp at h2
    omega

set_option maxRecDepth 100000 in
set_option maxHeartbeats 3200000 in
theorem ref_Expand_ok (N D : Int) (ho : okF N D = true) (w : World) :
    Calls Try.prog 71 #[.agg #[.int .i64 N, .int .i64 D]] w fun e w' =>
      ∃ v B, e = .returned (.tuple #[v, .int .i64 0]) ∧ w.heap.size ≤ B ∧ w'.ownsRow B 2 1 v (exL N D).length ((exL N D).map (Value.int .i64)) ∧ Below w.heap.size w w' := by
  obtain ⟨i0, hi, hz0, hz1, hz2⟩ := info_parts infoInt
  obtain ⟨o1, o2, o3, o4, o5⟩ := okF_out ho
  have A1 := fun w => ref_Check N D (by omega) (by omega) (by omega) (by omega) w
  rw [show chkI N D = 0 by rw [chkI, if_pos ho]] at A1
  clear ho o5
  have dAl := dAl; have dSt := dSt; have xC := ext_cell; have xF := ext_frozen; have xS := ext_set; have xN := ext_drewN; have xD := ext_drew; have xL := ext_lt; have xE := ext_ne; have xG := ext_nr; have xX := ext_ext; have xL1 := ext_lt1; have xL2 := ext_lt2; have xL3 := ext_lt3; have xM0 := ext_le0; have xM1 := ext_le1; have xM2 := ext_le2
  go_enter Try.func71, Try.ntmps71
  go_wp2_with fail
  refine (A1 _).mono ?_
  rintro e w1 ⟨rfl, hb⟩
  have HB1 : Below w.heap.size w w1 := bt (by (repeat (first | with_reducible exact b0 _ | (with_reducible refine bext ?_ _ _) | (with_reducible refine below_drewN ?_ _) | (with_reducible refine Below.drew ?_) | (with_reducible refine bal ?_ _)))) hb
  obtain ⟨lz, dz, hw⟩ := toExt hb
  clear hb A1
  have ka : w1.cell? ⟨w.heap.size, 0, none⟩ = some (.int .i64 N) := by rw [hw]; (simp (maxDischargeDepth := 8) [go_sem, World.cell?_alloc_past, ltk2, ltk3, ltk4, ltk5, ltk6, ltk7, ltk8, ltk9, *])
  have kb : w1.cell? ⟨w.heap.size, 1, none⟩ = some (.int .i64 D) := by rw [hw]; (simp (maxDischargeDepth := 8) [go_sem, World.cell?_alloc_past, ltk2, ltk3, ltk4, ltk5, ltk6, ltk7, ltk8, ltk9, *])
  have sz : w.heap.size < w1.heap.size := by rw [hw]; simp [ext_size] <;> omega
  clear hw
  go_wp2_with fail
  go_quiet (fail)
  go_wp2_with fail
  have HB0 : Below w1.heap.size w1 (w1.drewN nq) := below_drewN (b0 _) _
  go_loopg [4, 5, 6] D.toNat (fun k v x y wr => ∃ (l : List Int) (a b : Int), k = b.toNat ∧ x = .int .i64 a ∧ y = .int .i64 b ∧ exL N D = l ++ exL a b ∧ 0 ≤ b ∧ b ≤ 1000000000000000000 ∧ -1000000000000000000 ≤ a ∧ a ≤ 1000000000000000000 ∧
    wr.ownsRow w1.heap.size 2 1 v l.length (l.map (Value.int .i64)) ∧ w1.heap.size ≤ wr.heap.size ∧ Below w1.heap.size w1 wr)
  case atStart => exact ⟨[], N, D, rfl, rfl, rfl, rfl, by omega, o2, o3, o4, World.ownsRow_nil _ _ _ _, by simp, HB0⟩
  case round =>
    obtain ⟨l, a, b, rfl, rfl, rfl, hl, h0, h1, h2, h3, hown, hsz, hbr⟩ := hrel
    have hlen : l.length + (exL a b).length ≤ 120 := by
      have := exL_120 N D (by omega) o2
      rw [hl, List.length_append] at this
      exact this
    by_cases hb : b = 0
    · subst hb
      have HL := Lib.hid hl
      clear hl
      go_wp2
      go_ret2
      refine ⟨u4, w1.heap.size, rfl, by omega, ?_, HB1.trans (hbr.mono (by omega))⟩
      rw [HL.out, exL_nil, List.append_nil]
      exact hown
    · have hb1 : 1 ≤ b := by omega
      rw [exL_cons a b hb1] at hl hlen
      simp only [List.length_cons] at hlen
      have L1 := fun w => ref_low a b (by omega) (by omega) hb1 (by omega) w
      have e := Int.mul_ediv_add_emod a b
      rw [Int.mul_comm] at e
      have r0 := Int.emod_nonneg a hb
      have r1 := Int.emod_lt_of_pos a (show 0 < b by omega)
      have q0 := div_abs a b 1000000000000000000 (by omega) h2 h3
      have hl' : Hid (exL N D = (l ++ [a / b]) ++ exL b (a % b)) := Lib.hid (by rw [hl]; simp)
      have hR : Hid (0 ≤ a % b ∧ a % b < b) := Lib.hid ⟨r0, r1⟩
      clear hl
      generalize a % b = r at *
      generalize a / b = q at *
      have E1 : a - q * b = r := by omega
      have t0 : -3000000000000000000 ≤ q * b ∧ q * b ≤ 3000000000000000000 := by omega
      clear e
      go_wp2_with (first
        | (go_at_call 112; with_reducible refine (L1 _).mono ?_; rintro e w9 ⟨rfl, hw9⟩; rw [hw9]; clear hw9)
        | (at_builtin; refine wpList_append_own _ rfl _ _ 99 rfl w1.heap.size 2 i0 (.int .i64 0) 1 8 Try.underlying99 hi hz0 hz1 hz2 rfl (by decide) _ _ _ rfl (hown.alloc _) ⟨wr.heap.size, 0, none⟩ 1 1 [.int .i64 q] rfl rfl ?c1 ?c2 ?c3 ?c4 ?c5 ?_))
      case c1 =>
        intro j u hj
        match j, hj with
        | 0, hj => simp at hj; subst hj; simp [Addr.add]
      case c2 => intro u hu; simp at hu; subst hu; rfl
      case c3 => unfold maxLen; omega
      case c4 => omega
      case c5 => simp; omega
      intro v' w2 hown' hgrow _
      have R := app_step hown hbr hsz hown' hgrow
      clear hown' hgrow hown hbr
      go_wp2
      go_roundg r.toNat
      case measure => have := hR.out; omega
      case rel => exact ⟨l ++ [q], b, r, rfl, rfl, rfl, hl'.out, hR.out.1, by have := hR.out; omega, by omega, by omega, R.1, R.2.2, R.2.1⟩
end Go.Proofs.Ytbckjccbihnlnaa
